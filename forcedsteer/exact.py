"""Integers and fractions, exactly.

A fraction is a pair (top, bottom) without a common divisor, the bottom from 1 on.
"""

from math import gcd, lcm

NOUGHT = (0, 1)


def is_whole(value):
    """Whether any value is an integer; True and False are none."""
    return isinstance(value, int) and not isinstance(value, bool)


def is_fraction(value):
    """Whether any value is a fraction."""
    if not isinstance(value, tuple) or len(value) != 2:
        return False
    top, bottom = value
    return is_whole(top) and is_whole(bottom) and bottom >= 1 and gcd(top, bottom) == 1


def first_no_fraction(values):
    """The index of the first element of a tuple that is no fraction; None if there is none."""
    for at, value in enumerate(values):
        if not is_fraction(value):
            return at
    return None


def are_fractions(value, many):
    """Whether any value is a tuple of so many fractions."""
    return isinstance(value, tuple) and len(value) == many and first_no_fraction(value) is None


def fraction(top, bottom):
    """The fraction that is the one integer over the other one, which is not 0."""
    divisor = gcd(top, bottom) if bottom > 0 else -gcd(top, bottom)
    return top // divisor, bottom // divisor


def plus(one, other):
    """The sum of two fractions."""
    return fraction(one[0] * other[1] + other[0] * one[1], one[1] * other[1])


def minus(one, other):
    """The one fraction without the other one."""
    return fraction(one[0] * other[1] - other[0] * one[1], one[1] * other[1])


def weighed(factors, fractions):
    """The sum of these fractions, each one times its factor, an integer."""
    total = NOUGHT
    for factor, (top, bottom) in zip(factors, fractions):
        total = plus(total, fraction(factor * top, bottom))
    return total


def whole_row(fractions):
    """The fractions as integers: all of them times the least integer that makes them so."""
    factor = 1
    for _, bottom in fractions:
        factor = lcm(factor, bottom)
    return [top * (factor // bottom) for top, bottom in fractions]

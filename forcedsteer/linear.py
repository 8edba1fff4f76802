"""Rows of integers as equations: they are solved exactly, without fractions on the way.

A row tells as much after it has been multiplied by an integer that is not 0.
"""

from math import gcd


def _thin(row):
    """The row without the greatest common divisor of its elements."""
    divisor = 0
    for element in row:
        divisor = gcd(divisor, element)
    return [element // divisor for element in row] if divisor > 1 else row


def _cleared(row, head, at):
    """A multiple of the row, plus one of the head, that is 0 at this place, where the head is not 0."""
    return _thin([element * head[at] - row[at] * other for element, other in zip(row, head)])


def _first_index(rows, at):
    """The index of the first row that is not 0 at this place; None if there is none."""
    for index, row in enumerate(rows):
        if row[at] != 0:
            return index
    return None


def solved(rows, places):
    """The rows as heads and a rest, which tell the same, over the first so many places.

    A head is a pair (place, row): of all rows told, only this one is not 0 at
    this place. The heads stand in the order of their places. The rows of the
    rest are 0 at all these places; behind these the rows may go on.
    """
    heads = []
    rest = rows
    for at in range(places):
        index = _first_index(rest, at)
        if index is not None:
            head = rest[index]
            rest = [_cleared(row, head, at) for row in rest[:index] + rest[index + 1:]]
            heads = [(place, _cleared(row, head, at)) for place, row in heads] + [(at, head)]
    return heads, rest


def rank_of(rows, places):
    """The greatest number of these rows, of so many places, none of which is a sum of multiples of the others."""
    heads, _ = solved(rows, places)
    return len(heads)

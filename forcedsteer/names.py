"""What a name is, and what is one of some names.

The functions take any value. They ask for a string or a tuple first:
comparing or hashing a foreign value could run its own code.
"""

_LETTERS = "abcdefghijklmnopqrstuvwxyz"
_SIGNS = "abcdefghijklmnopqrstuvwxyz0123456789"
_MOST_SIGNS = 8


def is_name(value):
    """Whether any value is a name."""
    if not isinstance(value, str) or not 1 <= len(value) <= _MOST_SIGNS:
        return False
    return value[0] in _LETTERS and all([sign in _SIGNS for sign in value])


def is_among(value, names):
    """Whether any value is one of these names, a tuple of strings or a dict with strings as keys."""
    return isinstance(value, str) and value in names


def is_pair(value, names):
    """Whether any value is a pair of different ones of these names."""
    if not isinstance(value, tuple) or len(value) != 2:
        return False
    one, other = value
    return is_among(one, names) and is_among(other, names) and one != other

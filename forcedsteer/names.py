"""What a name is.

Both functions take any value. They ask for a string first: comparing or
hashing a foreign value could run its own code.
"""

_LETTERS = "abcdefghijklmnopqrstuvwxyz"
_SIGNS = "abcdefghijklmnopqrstuvwxyz0123456789"
_MOST_SIGNS = 8


def is_name(value):
    """Whether any value is a name."""
    if not isinstance(value, str) or not 1 <= len(value) <= _MOST_SIGNS:
        return False
    return value[0] in _LETTERS and all([sign in _SIGNS for sign in value])


def is_among(value, names):
    """Whether any value is one of these names, a tuple of strings."""
    return isinstance(value, str) and value in names

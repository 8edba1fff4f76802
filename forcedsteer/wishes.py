"""Wishes: what a wish is, and whether it holds."""

from forcedsteer.checks import are_leaders
from forcedsteer.exact import is_whole
from forcedsteer.forcing import always_steers, rounds
from forcedsteer.leading import fewest
from forcedsteer.names import is_name
from forcedsteer.some import sometimes_steers


def _is_lot(value):
    """Whether any value is a tuple of names; they need not be different, nor parts."""
    return isinstance(value, tuple) and all([is_name(name) for name in value])


def _is_bound(value):
    """Whether any value is an integer from 0 on."""
    return is_whole(value) and value >= 0


def is_wish(value):
    """Whether any value is a wish."""
    if not isinstance(value, tuple) or len(value) < 3:
        return False
    word, name, *rest = value
    if not isinstance(word, str) or not is_name(name):
        return False
    if word == "few":
        return len(rest) == 1 and _is_bound(rest[0])
    if word == "rounds":
        return len(rest) == 2 and _is_lot(rest[0]) and _is_bound(rest[1])
    return word in ("always", "sometimes") and len(rest) == 1 and _is_lot(rest[0])


def holds(works, wish):
    """Whether a wish holds for the works that stand under its name."""
    word, _, *rest = wish
    if word == "few":
        return fewest(works) <= rest[0]
    if not are_leaders(works, rest[0]):
        return False
    if word == "sometimes":
        return sometimes_steers(works, rest[0])
    return always_steers(works, rest[0]) and (word == "always" or rounds(works, rest[0]) <= rest[1])

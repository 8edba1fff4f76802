"""Telling: which strengths and ties fit days that were seen."""

from forcedsteer.checks import check_leaders, check_strengths, check_works
from forcedsteer.errors import InvalidSeen
from forcedsteer.exact import NOUGHT, are_fractions, fraction, minus, whole_row
from forcedsteer.limits import MOST_SEEN
from forcedsteer.linear import solved
from forcedsteer.states import next_state, spread


def _is_seen_day(works, leaders, value):
    """Whether any value is a triple of a state, a push and a state."""
    if not isinstance(value, tuple) or len(value) != 3:
        return False
    before, push, behind = value
    many = len(works)
    return are_fractions(before, many) and are_fractions(push, len(leaders)) and are_fractions(behind, many)


def _check_seen(works, leaders, seen):
    """Raise InvalidSeen if any value is not one to twelve days of these works and leaders."""
    if not isinstance(seen, tuple) or len(seen) == 0:
        raise InvalidSeen(None)
    for at, one in enumerate(seen):
        if at == MOST_SEEN or not _is_seen_day(works, leaders, one):
            raise InvalidSeen(at)


def fits(works, strengths, leaders, seen):
    """Whether all days are so with these strengths."""
    check_works(works)
    check_strengths(works, strengths)
    check_leaders(works, leaders)
    _check_seen(works, leaders, seen)
    return all([next_state(works, strengths, leaders, before, push) == behind for before, push, behind in seen])


def _equation(works, leaders, one):
    """A row for a day: the state before, and behind it what the push does not tell of the state after."""
    before, push, behind = one
    outside = spread(works, leaders, push)
    return whole_row(before + tuple([minus(came, pushed) for came, pushed in zip(behind, outside)]))


def strengths_seen(works, leaders, seen):
    """The one table of rows of fractions with which all days are so; None if there is none, or more than one."""
    check_works(works)
    check_leaders(works, leaders)
    _check_seen(works, leaders, seen)
    many = len(works)
    # The unknowns are the elements of a row of the table; the equations for
    # all rows differ only in what stands on their right sides.
    heads, rest = solved([_equation(works, leaders, one) for one in seen], many)
    if len(heads) < many or any([element != 0 for row in rest for element in row]):
        return None
    return tuple([tuple([fraction(row[many + at], row[place]) for place, row in heads]) for at in range(many)])


def ties_seen(works, leaders, seen):
    """All pairs of parts of which that table says that the first one pushes the second one; None if there is none."""
    table = strengths_seen(works, leaders, seen)
    if table is None:
        return None
    return tuple([(one, other) for at, one in enumerate(works.parts) for place, other in enumerate(works.parts)
                  if at != place and table[place][at] != NOUGHT])

"""Days: the states that pushes lead to, what can be reached with told strengths, and the pushes that lead there."""

from forcedsteer.checks import check_leaders, check_number, check_state, check_strengths, check_works
from forcedsteer.errors import InvalidPushes, NoWay
from forcedsteer.exact import NOUGHT, are_fractions, first_no_fraction, fraction, minus
from forcedsteer.limits import MOST_DAYS
from forcedsteer.linear import rank_of, solved
from forcedsteer.states import next_state


def _check_leading(works, strengths, leaders):
    """Look at the arguments that stand first in all functions of this file."""
    check_works(works)
    check_strengths(works, strengths)
    check_leaders(works, leaders)


def day(works, strengths, leaders, first, push):
    """The state after a day with this push."""
    _check_leading(works, strengths, leaders)
    check_state(works, first)
    if not isinstance(push, tuple) or len(push) != len(leaders):
        raise InvalidPushes(None)
    at = first_no_fraction(push)
    if at is not None:
        raise InvalidPushes(at)
    return next_state(works, strengths, leaders, first, push)


def _check_pushes(leaders, pushes):
    """Raise InvalidPushes if any value is not a push for each of some days."""
    if not isinstance(pushes, tuple):
        raise InvalidPushes(None)
    for at, push in enumerate(pushes):
        if at == MOST_DAYS or not are_fractions(push, len(leaders)):
            raise InvalidPushes(at)


def after(works, strengths, leaders, first, pushes):
    """The state after as many days as there are pushes."""
    _check_leading(works, strengths, leaders)
    check_state(works, first)
    _check_pushes(leaders, pushes)
    state = first
    for push in pushes:
        state = next_state(works, strengths, leaders, state, push)
    return state


def _total(factors, row):
    """The sum of the elements of the row, each one times its factor."""
    return sum([factor * element for factor, element in zip(factors, row)])


def _echoes(works, strengths, leaders, many):
    """What a push of 1 adds to the state behind so many days: a row for each day and leader, by the days, in order."""
    found = []
    rows = [[1 if other == part else 0 for other in works.parts] for part in leaders]
    for _ in range(many):
        found = rows + found
        rows = [[_total(factors, row) for factors in strengths] for row in rows]
    return found


def rank(works, strengths, leaders):
    """The rank of all states that can be reached from the state of noughts."""
    # What can be reached at all can be reached in as many days as there are parts.
    _check_leading(works, strengths, leaders)
    many = len(works)
    return rank_of(_echoes(works, strengths, leaders, many), many)


def steers(works, strengths, leaders):
    """Whether the works are steered with these strengths and leaders."""
    return rank(works, strengths, leaders) == len(works)


def _missing(works, strengths, first, last, many):
    """What so many days without pushes leave missing: a fraction for each part."""
    state = first
    for _ in range(many):
        state = next_state(works, strengths, (), state, ())
    return [minus(wanted, came) for wanted, came in zip(last, state)]


def _found_pushes(works, strengths, leaders, first, last, many):
    """So many pushes that lead from the one state to the other one; None if there are none."""
    echoes = _echoes(works, strengths, leaders, many)
    missing = _missing(works, strengths, first, last, many)
    # An equation for each part; the unknowns are the fractions of all pushes.
    rows = [[bottom * echo[at] for echo in echoes] + [top] for at, (top, bottom) in enumerate(missing)]
    heads, rest = solved(rows, len(echoes))
    if any([row[-1] != 0 for row in rest]):
        return None
    told = [NOUGHT] * len(echoes)
    for place, row in heads:
        told[place] = fraction(row[-1], row[place])
    size = len(leaders)
    return tuple([tuple(told[at * size:(at + 1) * size]) for at in range(many)])


def lead(works, strengths, leaders, first, last, many):
    """So many pushes that lead from the first state to the last one."""
    _check_leading(works, strengths, leaders)
    check_state(works, first)
    check_state(works, last)
    check_number(many, MOST_DAYS)
    pushes = _found_pushes(works, strengths, leaders, first, last, many)
    if pushes is None:
        raise NoWay()
    return pushes


def soonest(works, strengths, leaders, first, last):
    """The least number of days, up to as many as there are parts, in which some pushes lead there; None if none do."""
    _check_leading(works, strengths, leaders)
    check_state(works, first)
    check_state(works, last)
    for many in range(len(works) + 1):
        if _found_pushes(works, strengths, leaders, first, last, many) is not None:
            return many
    return None

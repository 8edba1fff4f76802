"""The arguments that occur in many places, and the errors for them.

What is checked may be any value; the works beside it are checked already.
"""

from forcedsteer.errors import InvalidLeaders, InvalidLot, InvalidNumber, InvalidState, InvalidStrengths
from forcedsteer.errors import NotWorks, UnknownName
from forcedsteer.exact import first_no_fraction, is_whole
from forcedsteer.limits import MOST_STRENGTH
from forcedsteer.names import is_among
from forcedsteer.works import Works


def check_works(works):
    """Raise NotWorks if any value is no Works."""
    if not isinstance(works, Works):
        raise NotWorks(works)


def _first_wrong(works, lot):
    """The index of the first element of a tuple that is no part or is there already; None if there is none."""
    for at, part in enumerate(lot):
        if not is_among(part, works.parts) or part in lot[:at]:
            return at
    return None


def are_leaders(works, value):
    """Whether any value is leaders of these works."""
    return isinstance(value, tuple) and _first_wrong(works, value) is None


def check_leaders(works, leaders):
    """Raise InvalidLeaders if any value is no leaders of these works."""
    if not isinstance(leaders, tuple):
        raise InvalidLeaders(None)
    at = _first_wrong(works, leaders)
    if at is not None:
        raise InvalidLeaders(at)


def check_lot(works, lot):
    """Raise InvalidLot if any value is no lot of parts of these works, or an empty one."""
    if not isinstance(lot, tuple) or len(lot) == 0:
        raise InvalidLot(None)
    at = _first_wrong(works, lot)
    if at is not None:
        raise InvalidLot(at)


def check_number(value, most):
    """Raise InvalidNumber if any value is no integer from 0 to the most."""
    if not is_whole(value) or not 0 <= value <= most:
        raise InvalidNumber(value)


def _is_strength(works, part, other, value):
    """Whether any value may stand in the row of this part as the element of the other one."""
    if not is_whole(value) or not -MOST_STRENGTH <= value <= MOST_STRENGTH:
        return False
    return part == other or (value != 0) == ((other, part) in works.ties)


def _is_row(works, part, value):
    """Whether any value is a row of this part in some strengths."""
    if not isinstance(value, tuple) or len(value) != len(works):
        return False
    return all([_is_strength(works, part, other, element) for other, element in zip(works.parts, value)])


def check_strengths(works, strengths):
    """Raise InvalidStrengths if any value is no strengths of these works."""
    if not isinstance(strengths, tuple) or len(strengths) != len(works):
        raise InvalidStrengths(None)
    for at, part in enumerate(works.parts):
        if not _is_row(works, part, strengths[at]):
            raise InvalidStrengths(at)


def check_state(works, state):
    """Raise InvalidState if any value is no state of these works."""
    if not isinstance(state, tuple) or len(state) != len(works):
        raise InvalidState(None)
    at = first_no_fraction(state)
    if at is not None:
        raise InvalidState(at)


def check_part(works, part):
    """Raise UnknownName if any value is no part of these works."""
    if not is_among(part, works.parts):
        raise UnknownName(part)

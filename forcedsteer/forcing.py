"""Forcing: which parts become known, by which forces, and in how many rounds."""

from forcedsteer.checks import check_leaders, check_works
from forcedsteer.lots import has, is_single, last_place, lot_of, parts_of, pushed_lots, whole_lot
from forcedsteer.names import is_pair


def _forced(pushed, lot, at):
    """The lot of the part that the part at this place makes known where just this lot is known; 0 if it makes none."""
    left = pushed[at] & ~lot
    if has(lot, at) and is_single(left):
        return left
    return 0


def _round(pushed, lot):
    """The lot of the parts that become known in a round where just this lot is known."""
    more = 0
    for at in range(len(pushed)):
        more = more | _forced(pushed, lot, at)
    return more


def known_lot(pushed, lot):
    """The lot of the parts that become known if at first this lot is known."""
    # Which parts become known does not hang on the order, and going by
    # rounds is quicker than going by single forces.
    more = _round(pushed, lot)
    while more != 0:
        lot = lot | more
        more = _round(pushed, lot)
    return lot


def _next_force(pushed, lot):
    """The places of the two parts of the next force where just this lot is known; None if there is none."""
    for at in range(len(pushed)):
        left = _forced(pushed, lot, at)
        if left != 0:
            return at, last_place(left)
    return None


def forces(works, leaders):
    """The forces of the leaders, in their order."""
    check_works(works)
    check_leaders(works, leaders)
    pushed = pushed_lots(works)
    lot = lot_of(works, leaders)
    found = []
    force = _next_force(pushed, lot)
    while force is not None:
        one, other = force
        found.append((works.parts[one], works.parts[other]))
        lot = lot | (1 << other)
        force = _next_force(pushed, lot)
    return tuple(found)


def known(works, leaders):
    """The parts that become known, leaders among them, in order."""
    check_works(works)
    check_leaders(works, leaders)
    return parts_of(works, known_lot(pushed_lots(works), lot_of(works, leaders)))


def always_steers(works, leaders):
    """Whether the leaders always steer the works."""
    check_works(works)
    check_leaders(works, leaders)
    return known_lot(pushed_lots(works), lot_of(works, leaders)) == whole_lot(works)


def rounds(works, leaders):
    """How many rounds there are until nothing becomes known any more."""
    check_works(works)
    check_leaders(works, leaders)
    pushed = pushed_lots(works)
    lot = lot_of(works, leaders)
    many = 0
    more = _round(pushed, lot)
    while more != 0:
        many = many + 1
        lot = lot | more
        more = _round(pushed, lot)
    return many


def are_forces(works, leaders, value):
    """Whether any value is a tuple of forces, in any order in which each one is one."""
    check_works(works)
    check_leaders(works, leaders)
    if not isinstance(value, tuple):
        return False
    pushed = pushed_lots(works)
    lot = lot_of(works, leaders)
    for force in value:
        if not is_pair(force, works.parts):
            return False
        one, other = force
        left = lot_of(works, (other,))
        if _forced(pushed, lot, works.parts.index(one)) != left:
            return False
        lot = lot | left
    return True


def spare(works, leaders):
    """The leaders without which, each by itself, the others still always steer the works."""
    # Fewer leaders never make more parts known: if all of them do not always
    # steer the works, no leader is told here, as it is asked for.
    check_works(works)
    check_leaders(works, leaders)
    pushed = pushed_lots(works)
    whole = whole_lot(works)
    lot = lot_of(works, leaders)
    return tuple([part for part in leaders if known_lot(pushed, lot - lot_of(works, (part,))) == whole])

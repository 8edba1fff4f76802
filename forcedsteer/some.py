"""Some: whether leaders steer works with some strengths at least, and with which."""

from forcedsteer.checks import check_leaders, check_works
from forcedsteer.lots import has, last_place, lot_of, parts_of, pushed_lots, whole_lot

# Any prime number above 7: the places from 0 to 7 are different modulo it, too.
_PRIME = 11


def _reached_lot(pushed, lot):
    """The lot of the parts that are in this lot or are reached from it."""
    # Each turn reaches one part more at least, as long as there is one.
    for _ in pushed:
        for at, others in enumerate(pushed):
            if has(lot, at):
                lot = lot | others
    return lot


def _steers_some(works, lot):
    """Whether leaders, as a lot, sometimes steer the works."""
    return _reached_lot(pushed_lots(works), lot) == whole_lot(works)


def sometimes_steers(works, leaders):
    """Whether the leaders steer the works with some strengths."""
    check_works(works)
    check_leaders(works, leaders)
    return _steers_some(works, lot_of(works, leaders))


def reached(works, leaders):
    """The parts that are leaders or are reached from them, in order."""
    check_works(works)
    check_leaders(works, leaders)
    return parts_of(works, _reached_lot(pushed_lots(works), lot_of(works, leaders)))


def _next_tie(pushed, lot):
    """The places of a tie from a part of the lot to one outside of it; None if there is none."""
    for at, others in enumerate(pushed):
        outside = others & ~lot
        if has(lot, at) and outside != 0:
            return at, last_place(outside)
    return None


def _first_ties(pushed, lot):
    """The places of ties, one to each part that is reached from the lot, from the lot or a part reached sooner."""
    ties = []
    tie = _next_tie(pushed, lot)
    while tie is not None:
        ties.append(tie)
        _, other = tie
        lot = lot | (1 << other)
        tie = _next_tie(pushed, lot)
    return ties


def _good_strength(pushed, ties, at, other):
    """The element of the part at the one place in the row of the part at the other place."""
    if at == other:
        return at
    if (at, other) in ties:
        return 1
    return _PRIME if has(pushed[at], other) else 0


def good_strengths(works, leaders):
    """Strengths with which the leaders steer the works; None if there are none."""
    # Modulo the prime number only the own elements, all different, and the
    # first ties are left, and these make trees that grow from leaders. There
    # the ratio of a bar would be the own element of some part, and the row of
    # the bar would not be 0 at any part on the way from a leader to that one,
    # the leader among them. So there is no bar modulo the prime number: some
    # states that can be reached, as many as there are parts, have a
    # determinant that is not 0 modulo it, hence not 0 at all.
    check_works(works)
    check_leaders(works, leaders)
    lot = lot_of(works, leaders)
    if not _steers_some(works, lot):
        return None
    pushed = pushed_lots(works)
    ties = _first_ties(pushed, lot)
    places = range(len(works))
    return tuple([tuple([_good_strength(pushed, ties, at, other) for at in places]) for other in places])


def _root_places(reaches):
    """The places of the roots, where these lots are reached from each part by itself."""
    places = range(len(reaches))
    return [at for at in places if all([has(reaches[at], other) for other in places if has(reaches[other], at)])]


def fewest_sometimes(works):
    """The least number of leaders that sometimes steer the works."""
    # Roots that reach one another need one leader together; other roots are
    # not reached from them.
    check_works(works)
    pushed = pushed_lots(works)
    reaches = [_reached_lot(pushed, 1 << at) for at in range(len(works))]
    many = 0
    lot = 0
    for at in _root_places(reaches):
        if not has(lot, at):
            many = many + 1
            lot = lot | reaches[at]
    return many


def roots(works):
    """All parts, in order, from which each part that reaches them is reached, too."""
    check_works(works)
    pushed = pushed_lots(works)
    reaches = [_reached_lot(pushed, 1 << at) for at in range(len(works))]
    return tuple([works.parts[at] for at in _root_places(reaches)])

"""Lots of parts as numbers: the bit at the place of each part of the lot is 1.

There are up to 256 lots of the parts of some works. As numbers they can be
joined and compared as a whole, so that all of them can be tried.
"""


def has(lot, at):
    """Whether the part at this place is in the lot."""
    return ((lot >> at) & 1) == 1


def is_single(lot):
    """Whether there is just one part in the lot."""
    return lot != 0 and (lot & (lot - 1)) == 0


def last_place(lot):
    """The place of the last part of a lot that is not empty."""
    return lot.bit_length() - 1


def lot_of(works, chosen):
    """The lot of these different parts."""
    return sum([1 << works.parts.index(part) for part in chosen])


def whole_lot(works):
    """The lot of all parts."""
    return (1 << len(works)) - 1


def parts_of(works, lot):
    """The parts of a lot, in order."""
    return tuple([part for at, part in enumerate(works.parts) if has(lot, at)])


def pushed_lots(works):
    """For each part, in order, the lot of the parts that it pushes."""
    return [lot_of(works, works.pushes(part)) for part in works.parts]


def lots_with_many(places, many):
    """All lots of so many of these places, ordered by the places of their parts."""
    grown = [(0, 0)]
    for _ in range(many):
        grown = [(lot | (1 << at), at + 1) for lot, start in grown for at in range(start, places)]
    return [row[0] for row in grown]


def all_lots(places):
    """All lots of these places, the empty one first, ordered by how many parts they have, then by their places."""
    return [lot for many in range(places + 1) for lot in lots_with_many(places, many)]


def least_lots(lots):
    """Those of these lots in which no other one of them lies; smaller lots stand ahead of greater ones."""
    found = []
    for lot in lots:
        if all([(lot & least) != least for least in found]):
            found.append(lot)
    return found

"""Barring: strengths with which leaders do not steer works, and the forts that are the reason."""

from forcedsteer.checks import check_leaders, check_lot, check_strengths, check_works
from forcedsteer.exact import is_whole
from forcedsteer.forcing import known_lot
from forcedsteer.lots import all_lots, has, is_single, last_place, least_lots, lot_of, parts_of, pushed_lots, whole_lot


def _is_bar_row(value, many):
    """Whether any value is a tuple of so many integers, not all 0."""
    if not isinstance(value, tuple) or len(value) != many:
        return False
    return all([is_whole(element) for element in value]) and any([element != 0 for element in value])


def _multiplied(row, strengths, at):
    """What the part at this place adds to the sum of all parts, each times its element of the row, a day later."""
    return sum([element * others[at] for element, others in zip(row, strengths)])


def is_bar(works, strengths, leaders, value):
    """Whether any value is a bar of these strengths and leaders."""
    check_works(works)
    check_strengths(works, strengths)
    check_leaders(works, leaders)
    if not isinstance(value, tuple) or len(value) != 2:
        return False
    row, ratio = value
    if not _is_bar_row(row, len(works)) or not is_whole(ratio):
        return False
    if any([row[works.parts.index(part)] != 0 for part in leaders]):
        return False
    return all([_multiplied(row, strengths, at) == ratio * element for at, element in enumerate(row)])


def _barring_column(pushed, fort, at):
    """Elements of the part at this place in the rows of all parts, such that those in the rows of the fort sum to 0."""
    column = [1 if has(pushed[at], other) else 0 for other in range(len(pushed))]
    inside = sum([element for other, element in enumerate(column) if has(fort, other)])
    if inside != 0:
        # A part of the fort may have any element in its own row. Another one
        # pushes two or more parts of the fort, so the last one's element,
        # 1 - inside, is not 0.
        place = at if has(fort, at) else last_place(pushed[at] & fort)
        column[place] = column[place] - inside
    return column


def barred(works, leaders):
    """None if the leaders always steer the works; otherwise strengths with which they do not, and a bar."""
    check_works(works)
    check_leaders(works, leaders)
    pushed = pushed_lots(works)
    fort = whole_lot(works) - known_lot(pushed, lot_of(works, leaders))
    if fort == 0:
        return None
    places = range(len(works))
    columns = [_barring_column(pushed, fort, at) for at in places]
    strengths = tuple([tuple([column[at] for column in columns]) for at in places])
    row = tuple([1 if has(fort, at) else 0 for at in places])
    return strengths, (row, 0)


def _is_fort_lot(pushed, lot):
    """Whether a lot is a fort."""
    return lot != 0 and all([has(lot, at) or not is_single(others & lot) for at, others in enumerate(pushed)])


def is_fort(works, parts):
    """Whether a lot of parts, in any order, is a fort."""
    check_works(works)
    check_lot(works, parts)
    return _is_fort_lot(pushed_lots(works), lot_of(works, parts))


def least_forts(works):
    """All least forts, ordered by how many parts they have, then by the places of these."""
    check_works(works)
    pushed = pushed_lots(works)
    forts = [lot for lot in all_lots(len(works)) if _is_fort_lot(pushed, lot)]
    return tuple([parts_of(works, lot) for lot in least_lots(forts)])

"""Leading: which lots of leaders always steer works."""

from forcedsteer.checks import check_number, check_works
from forcedsteer.forcing import known_lot
from forcedsteer.limits import MOST_PARTS
from forcedsteer.lots import all_lots, least_lots, lots_with_many, parts_of, pushed_lots, whole_lot


def _steering(works, lots):
    """Those of these lots that always steer the works."""
    pushed = pushed_lots(works)
    whole = whole_lot(works)
    return [lot for lot in lots if known_lot(pushed, lot) == whole]


def least_leaders(works):
    """All lots of leaders with as few parts as can be that always steer the works, ordered by their places."""
    lots = all_least(works)
    return tuple([lot for lot in lots if len(lot) == len(lots[0])])


def fewest(works):
    """How many leaders are enough at least to steer the works always."""
    return len(all_least(works)[0])


def lots_with(works, many):
    """How many lots of so many leaders always steer the works."""
    check_works(works)
    check_number(many, MOST_PARTS)
    return len(_steering(works, lots_with_many(len(works), many)))


def all_least(works):
    """All lots of leaders that always steer the works and of which no proper part does so."""
    check_works(works)
    lots = least_lots(_steering(works, all_lots(len(works))))
    return tuple([parts_of(works, lot) for lot in lots])

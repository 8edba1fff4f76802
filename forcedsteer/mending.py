"""Mending: which offered changes are enough, and what can be said where some ties are doubtful."""

from forcedsteer.checks import check_leaders, check_works
from forcedsteer.errors import InvalidDoubts, InvalidOffers
from forcedsteer.forcing import known_lot
from forcedsteer.limits import MOST_DOUBTS, MOST_OFFERS
from forcedsteer.lots import all_lots, has, least_lots, lot_of, parts_of, pushed_lots, whole_lot
from forcedsteer.names import is_among, is_pair


def _is_offer(works, leaders, value):
    """Whether any value is an offer."""
    if not isinstance(value, tuple) or len(value) == 0 or not isinstance(value[0], str):
        return False
    word, *rest = value
    if word == "lead":
        return len(rest) == 1 and is_among(rest[0], works.parts) and rest[0] not in leaders
    tie = tuple(rest)
    if word not in ("tie", "cut") or not is_pair(tie, works.parts):
        return False
    return (tie in works.ties) == (word == "cut")


def _check_offers(works, leaders, offers):
    """Raise InvalidOffers if any value is no offers for these works and leaders."""
    if not isinstance(offers, tuple):
        raise InvalidOffers(None)
    for at, offer in enumerate(offers):
        if at == MOST_OFFERS or not _is_offer(works, leaders, offer) or offer in offers[:at]:
            raise InvalidOffers(at)


def _turned(works, ties):
    """For each part the lot of the parts that it pushes, where these pairs are ties exactly if they were none."""
    pushed = pushed_lots(works)
    for one, other in ties:
        at = works.parts.index(one)
        pushed[at] = pushed[at] ^ lot_of(works, (other,))
    return pushed


def _mends(works, leaders, chosen):
    """Whether these offers let the leaders always steer the works."""
    more = tuple([offer[1] for offer in chosen if offer[0] == "lead"])
    pushed = _turned(works, [offer[1:] for offer in chosen if offer[0] != "lead"])
    return known_lot(pushed, lot_of(works, leaders + more)) == whole_lot(works)


def _chosen(told, lot):
    """Those of what is told whose places are in the lot."""
    return [one for at, one in enumerate(told) if has(lot, at)]


def mending(works, leaders, offers):
    """All least sets of these offers with which the leaders always steer the works, as tuples of indexes."""
    # One offer more may undo what the others do, so each set is tried.
    check_works(works)
    check_leaders(works, leaders)
    _check_offers(works, leaders, offers)
    many = len(offers)
    enough = [lot for lot in all_lots(many) if _mends(works, leaders, _chosen(offers, lot))]
    return tuple([tuple([at for at in range(many) if has(lot, at)]) for lot in least_lots(enough)])


def _check_doubts(works, doubts):
    """Raise InvalidDoubts if any value is no doubts about these works."""
    if not isinstance(doubts, tuple):
        raise InvalidDoubts(None)
    for at, doubt in enumerate(doubts):
        if at == MOST_DOUBTS or not is_pair(doubt, works.parts) or doubt in works.ties or doubt in doubts[:at]:
            raise InvalidDoubts(at)


def _known_lots(works, leaders, doubts):
    """The lot of the parts that become known for each of all ways, which is a lot of doubts that are ties: pairs."""
    sure = lot_of(works, leaders)
    ways = all_lots(len(doubts))
    return [(way, known_lot(_turned(works, _chosen(doubts, way)), sure)) for way in ways]


def _steering_ways(works, leaders, doubts):
    """The ways, as lots of doubts that are ties, that let the leaders always steer the works."""
    whole = whole_lot(works)
    return [way for way, lot in _known_lots(works, leaders, doubts) if lot == whole]


def doubtful(works, leaders, doubts):
    """How many of all ways let the leaders always steer the works."""
    check_works(works)
    check_leaders(works, leaders)
    _check_doubts(works, doubts)
    return len(_steering_ways(works, leaders, doubts))


def telling_doubt(works, leaders, doubts):
    """The index of the doubt that tells most; None if no way, or every way, lets the leaders always steer the works."""
    check_works(works)
    check_leaders(works, leaders)
    _check_doubts(works, doubts)
    ways = _steering_ways(works, leaders, doubts)
    if len(ways) in (0, 1 << len(doubts)):
        return None
    greater = []
    for at in range(len(doubts)):
        many = sum([1 for way in ways if has(way, at)])
        greater.append(max(many, len(ways) - many))
    return greater.index(min(greater))


def surely_known(works, leaders, doubts):
    """The parts, in order, that become known in all ways."""
    check_works(works)
    check_leaders(works, leaders)
    _check_doubts(works, doubts)
    sure = whole_lot(works)
    for _, lot in _known_lots(works, leaders, doubts):
        sure = sure & lot
    return parts_of(works, sure)

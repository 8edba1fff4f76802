"""What the document says of forces, forts, bars and states, word by word, for the tests to hold the package against."""

import itertools
from fractions import Fraction


def pushed(works, part):
    return {other for one, other in works.ties if one == part}


def forces(works, leaders):
    """The forces: the first part, by the order of the parts, that can make one known does so."""
    sure, found = set(leaders), []
    while True:
        able = [part for part in works.parts if part in sure and len(pushed(works, part) - sure) == 1]
        if not able:
            return tuple(found)
        (other,) = pushed(works, able[0]) - sure
        found.append((able[0], other))
        sure.add(other)


def in_order(works, lot):
    return tuple(part for part in works.parts if part in lot)


def known(works, leaders):
    return in_order(works, set(leaders) | {other for _, other in forces(works, leaders)})


def rounds(works, leaders):
    """How many times parts become known, all at once."""
    sure, many = set(leaders), 0
    while True:
        left = [pushed(works, part) - sure for part in sure]
        more = set().union(*[others for others in left if len(others) == 1])
        if not more:
            return many
        sure, many = sure | more, many + 1


def are_forces(works, leaders, value):
    """Whether these pairs are forces, each one at its time."""
    sure = set(leaders)
    for one, other in value:
        if one not in sure or pushed(works, one) - sure != {other}:
            return False
        sure.add(other)
    return True


def is_fort(works, lot):
    outside = set(works.parts) - set(lot)
    return bool(lot) and all(len(pushed(works, part) & set(lot)) != 1 for part in outside)


def reached(works, leaders):
    sure = set(leaders)
    while True:
        more = set().union(*[pushed(works, part) for part in sure]) - sure
        if not more:
            return in_order(works, sure)
        sure |= more


def are_strengths(works, value):
    """Whether a value is strengths of these works."""
    if type(value) is not tuple or len(value) != len(works.parts):
        return False
    for part, row in zip(works.parts, value):
        if type(row) is not tuple or len(row) != len(works.parts):
            return False
        for other, element in zip(works.parts, row):
            if type(element) is not int or abs(element) > 10 ** 6:
                return False
            if other != part and (element != 0) != ((other, part) in works.ties):
                return False
    return True


def is_bar(works, strengths, leaders, value):
    """Whether a pair of a row of integers and an integer is a bar."""
    row, ratio = value
    places = range(len(works.parts))
    sums = [sum(row[at] * strengths[at][other] for at in places) for other in places]
    leading = [row[works.parts.index(part)] for part in leaders]
    return any(row) and not any(leading) and sums == [ratio * element for element in row]


def rank_of(vectors):
    """The greatest number of these vectors none of which is a sum of multiples of the others."""
    rows, many = [[Fraction(element) for element in vector] for vector in vectors], 0
    for column in range(len(rows[0]) if rows else 0):
        pivot = next((at for at in range(many, len(rows)) if rows[at][column]), None)
        if pivot is None:
            continue
        rows[many], rows[pivot] = rows[pivot], rows[many]
        for at in range(many + 1, len(rows)):
            share = rows[at][column] / rows[many][column]
            rows[at] = [element - share * above for element, above in zip(rows[at], rows[many])]
        many += 1
    return many


def rank(works, strengths, leaders):
    """The rank of all states that can be reached from the state of noughts."""
    places, found = range(len(works.parts)), []
    for leader in leaders:
        state = [int(part == leader) for part in works.parts]
        for _ in places:
            found.append(state)
            state = [sum(strengths[at][other] * state[other] for other in places) for at in places]
    return rank_of(found)


def steers(works, strengths, leaders):
    return rank(works, strengths, leaders) == len(works.parts)


def least(lots):
    """Those of these lots that have no other one of them in them, in their order."""
    return tuple(lot for lot in lots if not any(set(other) < set(lot) for other in lots))


def lots(works):
    """All lots of parts, each one in order, ordered by how many parts they have, then by the places of these."""
    parts = works.parts
    return [lot for many in range(len(parts) + 1) for lot in itertools.combinations(parts, many)]

"""What the document says of forces, forts, bars and states, word by word, for the tests to hold the package against."""

import itertools
from fractions import Fraction


def pushed(works, part):
    return {other for one, other in works.ties if one == part}


def forces(works, leaders):
    """The forces: the first part, by the order of the parts, that can make one known does so."""
    sure, found = set(leaders), []
    while True:
        able = [part for part in works.parts if part in sure and len(pushed(works, part) - sure) == 1]
        if not able:
            return tuple(found)
        (other,) = pushed(works, able[0]) - sure
        found.append((able[0], other))
        sure.add(other)


def in_order(works, lot):
    return tuple(part for part in works.parts if part in lot)


def known(works, leaders):
    return in_order(works, set(leaders) | {other for _, other in forces(works, leaders)})


def rounds(works, leaders):
    """How many times parts become known, all at once."""
    sure, many = set(leaders), 0
    while True:
        left = [pushed(works, part) - sure for part in sure]
        more = set().union(*[others for others in left if len(others) == 1])
        if not more:
            return many
        sure, many = sure | more, many + 1


def are_forces(works, leaders, value):
    """Whether these pairs are forces, each one at its time."""
    sure = set(leaders)
    for one, other in value:
        if one not in sure or pushed(works, one) - sure != {other}:
            return False
        sure.add(other)
    return True


def is_fort(works, lot):
    outside = set(works.parts) - set(lot)
    return bool(lot) and all(len(pushed(works, part) & set(lot)) != 1 for part in outside)


def reached(works, leaders):
    sure = set(leaders)
    while True:
        more = set().union(*[pushed(works, part) for part in sure]) - sure
        if not more:
            return in_order(works, sure)
        sure |= more


def are_strengths(works, value):
    """Whether a value is strengths of these works."""
    if type(value) is not tuple or len(value) != len(works.parts):
        return False
    for part, row in zip(works.parts, value):
        if type(row) is not tuple or len(row) != len(works.parts):
            return False
        for other, element in zip(works.parts, row):
            if type(element) is not int or abs(element) > 10 ** 6:
                return False
            if other != part and (element != 0) != ((other, part) in works.ties):
                return False
    return True


def is_bar(works, strengths, leaders, value):
    """Whether a pair of a row of integers and an integer is a bar."""
    row, ratio = value
    places = range(len(works.parts))
    sums = [sum(row[at] * strengths[at][other] for at in places) for other in places]
    leading = [row[works.parts.index(part)] for part in leaders]
    return any(row) and not any(leading) and sums == [ratio * element for element in row]


def rank_of(vectors):
    """The greatest number of these vectors none of which is a sum of multiples of the others."""
    rows, many = [[Fraction(element) for element in vector] for vector in vectors], 0
    for column in range(len(rows[0]) if rows else 0):
        pivot = next((at for at in range(many, len(rows)) if rows[at][column]), None)
        if pivot is None:
            continue
        rows[many], rows[pivot] = rows[pivot], rows[many]
        for at in range(many + 1, len(rows)):
            share = rows[at][column] / rows[many][column]
            rows[at] = [element - share * above for element, above in zip(rows[at], rows[many])]
        many += 1
    return many


def rank(works, strengths, leaders):
    """The rank of all states that can be reached from the state of noughts."""
    places, found = range(len(works.parts)), []
    for leader in leaders:
        state = [int(part == leader) for part in works.parts]
        for _ in places:
            found.append(state)
            state = [sum(strengths[at][other] * state[other] for other in places) for at in places]
    return rank_of(found)


def steers(works, strengths, leaders):
    return rank(works, strengths, leaders) == len(works.parts)


def least(lots):
    """Those of these lots that have no other one of them in them, in their order."""
    return tuple(lot for lot in lots if not any(set(other) < set(lot) for other in lots))


def lots(works):
    """All lots of parts, each one in order, ordered by how many parts they have, then by the places of these."""
    parts = works.parts
    return [lot for many in range(len(parts) + 1) for lot in itertools.combinations(parts, many)]


def numbers(fractions):
    """Pairs (top, bottom) as Python's fractions."""
    return [Fraction(top, bottom) for top, bottom in fractions]


def written(values):
    """Python's integers and fractions as pairs (top, bottom)."""
    return tuple((Fraction(value).numerator, Fraction(value).denominator) for value in values)


def are_fractions(value, many):
    """Whether a value is a tuple of so many fractions."""
    if type(value) is not tuple or len(value) != many:
        return False
    for pair in value:
        if type(pair) is not tuple or len(pair) != 2 or any(type(number) is not int for number in pair):
            return False
        if pair[1] < 1 or (Fraction(*pair).numerator, Fraction(*pair).denominator) != pair:
            return False
    return True


def day(works, table, leaders, state, push):
    """The state after a day; the table has integers or pairs."""
    rows = [[Fraction(*each) if type(each) is tuple else each for each in row] for row in table]
    before, outside = numbers(state), dict(zip(leaders, numbers(push)))
    sums = [sum(element * value for element, value in zip(row, before)) for row in rows]
    return written(value + outside.get(part, 0) for part, value in zip(works.parts, sums))


def after(works, strengths, leaders, first, pushes):
    state = first
    for push in pushes:
        state = day(works, strengths, leaders, state, push)
    return state


def can_lead(works, strengths, leaders, first, last, many):
    """Whether some pushes lead from the one state to the other one in so many days."""
    noughts, echoes = written([0] * len(works.parts)), []
    for leader in leaders:
        state = written(int(part == leader) for part in works.parts)
        for _ in range(many):
            echoes.append(numbers(state))
            state = day(works, strengths, (), state, ())
    came = after(works, strengths, (), first, ((),) * many)
    missing = [wanted - value for wanted, value in zip(numbers(last), numbers(came))]
    if noughts == written(missing):
        return True
    return rank_of(echoes + [missing]) == rank_of(echoes)


def changed(works, leaders, offers):
    """The works and leaders with these offers."""
    parts, ties = works.parts, list(works.ties)
    for word, *rest in offers:
        if word == "lead":
            leaders = leaders + tuple(rest)
        elif word == "tie":
            ties.append(tuple(rest))
        else:
            ties.remove(tuple(rest))
    return type(works)(parts, tuple(ties)), leaders


def mending(works, leaders, offers):
    """All sets of offers that do it, as indexes, and those of them that have no other one in them."""
    places = range(len(offers))
    sets = [chosen for many in range(len(offers) + 1) for chosen in itertools.combinations(places, many)]
    enough = []
    for chosen in sets:
        mended, more = changed(works, leaders, [offers[at] for at in chosen])
        if known(mended, more) == works.parts:
            enough.append(chosen)
    return enough, least(enough)


def ways(works, leaders, doubts):
    """For each way of the doubtful ties the ties that are there, and the parts that become known."""
    found = []
    for bits in itertools.product((False, True), repeat=len(doubts)):
        there = tuple(itertools.compress(doubts, bits))
        found.append((there, known(type(works)(works.parts, works.ties + there), leaders)))
    return found


def table_of(works, leaders, seen):
    """Whether the states before tell the table, and whether some table fits."""
    befores, every = [], []
    for before, push, behind in seen:
        outside = dict(zip(leaders, numbers(push)))
        told = [value - outside.get(part, 0) for part, value in zip(works.parts, numbers(behind))]
        befores.append(numbers(before))
        every.append(numbers(before) + told)
    return rank_of(befores) == len(works.parts), rank_of(befores) == rank_of(every)

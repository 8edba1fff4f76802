"""Right and wrong arguments for the fork: each wrong one with what its error keeps."""

import itertools

from forcedsteer.works import Works
from samples import FORK
from strange import Agreeing, Hostile, nested, strange_values

ZERO = ((0, 0, 0, 0), (1, -1, 0, 0), (-1, 0, -1, 0), (0, 1, 1, 0))
PUSH = ((3, 1), (-1, 2))
PUSHES = (PUSH, ((0, 1), (2, 3)), ((1, 1), (0, 1)))
FIRST = ((1, 2), (0, 1), (-7, 3), (5, 1))
LAST = ((0, 1), (3, 1), (4, 1), (-1, 1))
SEEN = ((FIRST, PUSH, LAST), (LAST, PUSHES[1], FIRST), (FIRST, PUSH, LAST))
OFFERS = (("lead", "c"), ("cut", "a", "b"), ("tie", "d", "b"), ("tie", "d", "a"), ("cut", "c", "d"), ("lead", "d"))
DOUBTS = (("a", "d"), ("d", "b"), ("d", "a"), ("b", "a"), ("c", "a"), ("c", "b"))
RIGHT = {"works": FORK, "leaders": ("b", "a"), "strengths": ZERO, "parts": ("c", "b"), "many": 2, "value": (),
         "first": FIRST, "last": LAST, "push": PUSH, "pushes": PUSHES, "seen": SEEN, "offers": OFFERS[:3],
         "doubts": DOUBTS[:3]}
ERRORS = {"works": "NotWorks", "leaders": "InvalidLeaders", "strengths": "InvalidStrengths", "parts": "InvalidLot",
          "many": "InvalidNumber", "first": "InvalidState", "last": "InvalidState", "push": "InvalidPushes",
          "pushes": "InvalidPushes", "seen": "InvalidSeen", "offers": "InvalidOffers", "doubts": "InvalidDoubts"}
NO_PARTS = ["", "e", "A", "ab", "a ", " a", "a\n", "a b", ("a",), ["a"], FORK, *strange_values()]
NO_FRACTIONS = [
    (1,), (1, 0), (0, 0), (1, -1), (0, -1), (-1, -2), (2, 2), (0, 2), (2, 4), (-3, 3), (6, -3), (10 ** 79, 10),
    (True, 1), (1, True), (False, 1), (1, False), (0, True), [1, 1], (1, 1, 1), ("1", 1), (1, "1"), (None, 1),
    (1, None), ((1, 1), 1), (1, (1, 1)), ((1, 1),), ((1, 1), (1, 1)), (Hostile(), 1), (1, Hostile()),
    (Agreeing(), Agreeing()), "1", "11", "1/1", ("1", "1"), {1: 1}, FORK, *strange_values(),
]


def put(row, at, value):
    """This tuple with another value at a place."""
    return row[:at] + (value,) + row[at + 1:]


def no_tuples():
    """Values that are no tuples, of all kinds."""
    others = ["", "a", "ab", "a b", [], ["a"], ["a", "b"], {"a"}, {"a": 1}, FORK, iter(("a",))]
    return [value for value in [*others, *strange_values()] if not isinstance(value, tuple)]


def wrong_lots():
    """Values that are no different parts of the fork, each with the index of the first wrong element."""
    told = [(value, None) for value in no_tuples()]
    for many, value in itertools.product(range(4), NO_PARTS):
        lot = ("d", "b", "a", "c")[:many]
        told += [(lot + (value,), many), (lot + (value, "a", "a"), many), (lot + (value, Hostile()), many)]
    for one, other in itertools.combinations(range(4), 2):
        told.append((put(("d", "b", "a", "c"), other, "dbac"[one]), other))
    told += [(FORK.parts + (value,), 4) for value in NO_PARTS[:9] + list(FORK.parts)]
    return told + [(("a", "a", ""), 1), (("a", "b", "", "b"), 2), (nested(100), 0), (("a",) * 5000, 1)]


def wrong_strengths():
    """Values that are no strengths of the fork, each with the index of the first wrong row."""
    told = [(value, None) for value in no_tuples()]
    rows = [(), ZERO[:3], ZERO + ((0, 0, 0, 0),), ZERO + (Hostile(),), (Hostile(),), (None,) * 5, nested(100)]
    told += [(value, None) for value in rows]
    for at, value in itertools.product(range(4), [*strange_values(), "abcd", FORK]):
        told += [(put(ZERO, at, value), at), (ZERO[:at] + (value,) * (4 - at), at)]
    for at, place in itertools.product(range(4), range(4)):
        wrong = [10 ** 6 + 1, -10 ** 6 - 1, 10 ** 79, True, False, "1", (1,)]
        wrong += [value for value in strange_values() if type(value) is not int]
        if at != place:
            wrong += [0] if ZERO[at][place] else [1, -1, 10 ** 6]
        told += [(put(ZERO, at, put(ZERO[at], place, value)), at) for value in wrong]
    for at, row in enumerate(ZERO):
        others = [row[:3], row + (0,), list(row), row[1:] + (row,), (row,), ()]
        told += [(put(ZERO, at, value), at) for value in others]
    return told


def wrong_fractions(right):
    """Values that are not a tuple of as many fractions as this one, each with the index of the first wrong element."""
    told = [(value, None) for value in no_tuples()]
    others = [right[:-1], right + right[:1], (), right + (Hostile(),), (Hostile(),) * (len(right) - 1), nested(100),
              (Hostile(),) * 9, (right,), list(right)]
    told += [(value, None) for value in others]
    for at, value in itertools.product(range(len(right)), NO_FRACTIONS):
        told += [(put(right, at, value), at), (right[:at] + (value,) * (len(right) - at), at)]
        told.append((right[:at] + (value,) + (Hostile(),) * (len(right) - at - 1), at))
    return told


def some_wrong_fractions(right):
    """Every fifth of these, so that the tests that put them into rows do not run long."""
    return wrong_fractions(right)[::5]


def wrong_rows(right, wrong):
    """Values that are no tuple of what these are, as one of these wrong ones stands in them; with its index."""
    told = [(value, None) for value in [*no_tuples(), list(right)]]
    for at, value in itertools.product(range(len(right) + 1), wrong):
        told += [(right[:at] + (value,), at), (put(right, at, value), at), (right[:at] + (value, Hostile()), at)]
    return told


def no_pushes():
    """Values that are no push of two leaders."""
    return [value for value, _ in some_wrong_fractions(PUSH)] + [(value,) for value in PUSH] + [PUSHES, FIRST]


def no_seen_days():
    """Values that are no triple of a state, a push and a state."""
    day = SEEN[0]
    told = [day[:2], day + day[:1], list(day), day[::-1][:2], (), (day,), (FIRST, LAST, PUSH), (PUSH, FIRST, LAST)]
    told += [(FIRST, PUSH, value) for value, _ in some_wrong_fractions(LAST)]
    told += [(value, PUSH, LAST) for value, _ in some_wrong_fractions(FIRST)]
    return told + [(FIRST, value, LAST) for value in no_pushes()] + strange_values()


def no_offers():
    """Values that are no offer for the fork with the leaders b and a."""
    told = [(), "lead", ("lead",), ("tie",), ("cut",), ("lead", "a"), ("lead", "b"), ("lead", "e"), ("lead", ""),
            ("lead", "c", "d"), ("lead", ("c",)), ["lead", "c"], ("Lead", "c"), ("lead ", "c"), ("c", "lead"), ("c",),
            ("lead", ["c"]), (("lead", "c"),), ("leave", "a"), ("leave", "c"), ("", "c"), ("d", "b"), ("a", "b"),
            ("tie", "a", "b"), ("tie", "c", "d"), ("tie", "a", "a"), ("tie", "d"), ("tie", "d", "b", "a"),
            ("tie", ("d", "b")), ("tie", "d", "e"), ("tie", "e", "d"), ["tie", "d", "b"], ("lead", "d", "b"),
            ("cut", "b", "a"), ("cut", "a", "d"), ("cut", "a", "a"), ("cut", "a"), ("cut", "a", "b", "c"),
            ("cut", ("a", "b")), ("cut", "a", "e"), ["cut", "a", "b"], ("cut", "d", "b"), (b"cut", "a", "b"),
            ("tie", "d", True), ("lead", b"c"), "cd", FORK, ("", "d", "b"), ("", "a", "b"), ("Tie", "d", "b"),
            ("ties", "d", "b"), ("leave", "d", "b"), ("cuts", "a", "b"), ("Cut", "a", "b"), ("a", "d", "b")]
    for value in strange_values():
        told += [value, (value,), (value, "c"), ("lead", value), ("tie", value, "b"), ("tie", "d", value),
                 ("cut", "a", value), ("cut", value, "b"), (value, "d", "b"), (value, "a", "b"), ("lead", "c", value)]
    return told


def no_doubts():
    """Values that are no pair of different parts of the fork that is no tie of it."""
    told = [*FORK.ties, ("a", "a"), ("d", "d"), ("a",), ("a", "d", "b"), ["a", "d"], ("a", "e"), ("e", "a"), ("a", ""),
            "ad", ("tie", "a", "d"), (("a", "d"),), ("a", ("d",)), ("A", "d"), ("a ", "d"), (b"a", b"d"), FORK]
    for value in strange_values():
        told += [value, (value,), (value, "d"), ("a", value), (value, value), ("a", "d", value)]
    return told


def wrong_numbers(most):
    """Values that are no integer from 0 to the most."""
    whole = [value for value in strange_values() if type(value) is int and 0 <= value <= most]
    others = [value for value in strange_values() if not any(value is number for number in whole)]
    told = ["2", "", (2,), [2], (2, 1), -1, most + 1, -most - 1, 10 ** 79, -10 ** 79, *others]
    return [(value, value) for value in told]


def repeated(right):
    """Tuples of these, one of which stands there again at the end, each with the index of this one."""
    told = [(right[:many] + (right[at],), many) for many in range(1, len(right)) for at in range(many)]
    return told + [(right[:2] + (right[0], Hostile()), 2), (right[:1] * 2 + (None,), 1)]


def wrong_works():
    told = ["a b\na > b", FORK.parts, (FORK.parts, FORK.ties), Works, [FORK], (FORK,), *strange_values()]
    return [(value, value) for value in told]


def wrong_values(function, name):
    """Wrong values for a parameter of a function, both told by their names, each with what the error keeps."""
    if name == "seen":
        thirteenth = [(SEEN * 4 + (value,), 12) for value in [SEEN[0], None, Hostile(), ()]]
        return wrong_rows(SEEN, no_seen_days()) + thirteenth + [((), None), (SEEN * 9, 12)]
    if name == "pushes":
        return wrong_rows(PUSHES, no_pushes()) + [((PUSH,) * 12 + (value,), 12) for value in [PUSH, None, Hostile()]]
    if name == "offers":
        seventh = [("tie", "b", "a"), OFFERS[0], None, Hostile()]
        return wrong_rows(OFFERS, no_offers()) + repeated(OFFERS) + [(OFFERS + (value,), 6) for value in seventh]
    if name == "doubts":
        seventh = [("b", "c"), ("d", "c"), DOUBTS[0], None, Hostile()]
        return wrong_rows(DOUBTS, no_doubts()) + repeated(DOUBTS) + [(DOUBTS + (value,), 6) for value in seventh]
    if name in ("first", "last", "push"):
        return wrong_fractions(RIGHT[name])
    if name == "many":
        return wrong_numbers(8 if function == "lots_with" else 12)
    if name in ("works", "strengths"):
        return wrong_works() if name == "works" else wrong_strengths()
    return wrong_lots() + ([((), None)] if name == "parts" else [])

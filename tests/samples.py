"""Works for the tests. The names of their parts are in mixed order, not as Python compares strings."""

import itertools
import random

from forcedsteer.works import Works

NAMES = ("m", "c", "x", "a9", "t", "b", "zz", "k")
FORK = Works.read("a b c d\na > b\na > c\nb > d\nc > d")
LINE = Works(("x", "y", "z"), (("x", "y"), ("y", "z")))


def pairs(many):
    """All ties of so many parts."""
    return tuple(itertools.permutations(NAMES[:many], 2))


def line(many):
    """Each part pushes the next one."""
    return Works(NAMES[:many], tuple(zip(NAMES, NAMES[1:many])))


def ring(many):
    """A line of two parts or more whose last part pushes the first one."""
    return Works(NAMES[:many], tuple(zip(NAMES, NAMES[1:many])) + ((NAMES[many - 1], NAMES[0]),))


def star(many):
    """The first part pushes all others."""
    return Works(NAMES[:many], tuple((NAMES[0], other) for other in NAMES[1:many]))


def gathering(many):
    """All parts push the first one."""
    return Works(NAMES[:many], tuple((other, NAMES[0]) for other in NAMES[1:many]))


def tree(many):
    """Each part pushes two others at most, and each one but the first is pushed by one."""
    return Works(NAMES[:many], tuple((NAMES[(at - 1) // 2], NAMES[at]) for at in range(1, many)))


def all_tied(many):
    return Works(NAMES[:many], pairs(many))


def untied(many):
    return Works(NAMES[:many])


def turned(works):
    """The same works with parts and ties in the opposite order."""
    return Works(works.parts[::-1], works.ties[::-1])


def shaped():
    """Works of all the shapes above, with one part to eight, also turned round."""
    shapes = [make(many) for make in (line, star, gathering, tree, all_tied, untied) for many in range(1, 9)]
    shapes += [ring(many) for many in range(2, 9)]
    return [FORK, LINE, *shapes, *[turned(works) for works in shapes]]


def small():
    """All works with one part to three, up to the order of their ties."""
    found = []
    for many in range(1, 4):
        ties = pairs(many)
        for bits in itertools.product((False, True), repeat=len(ties)):
            found.append(Works(NAMES[:many], tuple(itertools.compress(ties, bits))))
    return found


def drawn(each, seed=7):
    """So many works for each number of parts, with few ties to many, always the same ones."""
    draw = random.Random(seed)
    found = []
    for many, _ in itertools.product(range(1, 9), range(each)):
        ties = draw.sample(pairs(many), draw.randint(0, many * (many - 1)))
        found.append(Works(tuple(draw.sample(NAMES[:many], many)), tuple(ties[:draw.randint(0, 4 * many)])))
    return found


def some_lots(works, seed=3):
    """Some lots of leaders in any order: none, all, each one alone, and others."""
    draw = random.Random(seed)
    parts = works.parts
    found = [(), parts, parts[::-1], *[(part,) for part in parts]]
    return found + [tuple(draw.sample(parts, draw.randint(0, len(parts)))) for _ in range(12)]


def drawn_strengths(works, seed=11):
    """Some strengths of these works, small and great ones."""
    draw = random.Random(seed)
    found = []
    for most in (1, 2, 9, 10 ** 6):
        table = [[draw.randint(-most, most) for _ in works.parts] for _ in works.parts]
        for (at, part), (place, other) in itertools.product(enumerate(works.parts), repeat=2):
            if at != place:
                strength = draw.randint(1, most) * draw.choice((1, -1))
                table[at][place] = strength if (other, part) in works.ties else 0
        found.append(tuple(tuple(row) for row in table))
    return found

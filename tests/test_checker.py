"""The checker: right claims, bent ones at any depth, and any values at all; nothing is ever raised."""

import inspect
import itertools
import random
import unittest

import claims
import plain
import samples
from forcedsteer.barring import barred
from forcedsteer.certificates import certify_fort, certify_lead, certify_leaders, certify_some
from forcedsteer.checker import accepts
from forcedsteer.days import after
from forcedsteer.forcing import forces
from forcedsteer.works import Works
from samples import FORK, LINE, NAMES
from strange import Agreeing, Hostile, nested, strange_values

ZERO = ((0, 0, 0, 0), (1, -1, 0, 0), (-1, 0, -1, 0), (0, 1, 1, 0))
HALF = ((1, 0, 0), (1, 2, 0), (0, 1, 3))
TEXT, ROW = str(FORK), str(LINE)
NONE = ((0, 1),) * 3
GOAL = ((1, 1), (5, 1), (-2, 1))
PUSHES = (((1, 1),), ((-4, 3),), ((0, 1),))
RIGHT = [
    (("always", TEXT, ("a", "b")), (("b", "d"), ("a", "c"))),
    (("always", TEXT, FORK.parts), ()),
    (("always", ROW, ("x",)), (("x", "y"), ("y", "z"))),
    (("not always", TEXT, ("a",)), (ZERO, ((0, 1, 1, 1), 0))),
    (("not always", ROW, ("y",)), (HALF, ((1, 0, 0), 1))),
    (("sometimes", ROW, ("x",)), HALF),
    (("sometimes", TEXT, ("b", "a")), ZERO),
    (("fort", TEXT, ("c", "b")), ()),
    (("fort", TEXT, ("a",)), ()),
    (("leads", ROW, HALF, ("x",), GOAL, GOAL), ()),
    (("leads", ROW, HALF, ("x",), NONE, after(LINE, HALF, ("x",), NONE, PUSHES)), PUSHES),
    (("leads", ROW, HALF, (), NONE, NONE), ((), ())),
    (("leads", ROW, HALF, ("z", "y"), NONE, ((0, 1), (2, 3), (1, 2))), (((1, 2), (2, 3)),)),
]


class CheckerCase(unittest.TestCase):
    def told(self, claim, paper):
        answer = accepts(claim, paper)
        self.assertIs(type(answer), bool)
        return answer

    def check(self, claim, paper):
        """The answer is that of the document; it is returned."""
        wanted = claims.accepts(claim, paper)
        self.assertIs(self.told(claim, paper), wanted)
        return wanted


class ExamplesTest(unittest.TestCase):
    def test_the_examples(self):
        fork, zero = FORK, ZERO
        claim, _ = certify_leaders(fork, ("a",))
        told = [accepts(claim, (zero, ((0, 1, 1, 1), 0))),
                accepts(("always", str(fork), ("a", "b")), (("b", "d"), ("a", "c"))),
                accepts(("fort", str(fork), ("c", "b")), ())]
        self.assertEqual(told, [True, True, True])

    def test_the_interface(self):
        self.assertEqual(accepts.__module__, "forcedsteer.checker")
        self.assertEqual(list(inspect.signature(accepts).parameters), ["claim", "certificate"])
        for claim, paper in RIGHT:
            self.assertIs(accepts(certificate=paper, claim=claim), True)
            self.assertIs(accepts(claim, certificate=paper), True)


class BentTest(CheckerCase):
    def test_right_ones(self):
        for claim, paper in RIGHT:
            self.assertIs(self.check(claim, paper), True)

    def test_bent_claims(self):
        found = 0
        for claim, paper in RIGHT:
            for at, wrong in enumerate(claims.bent(claim)):
                with self.subTest(claim=claim[0], at=at):
                    self.check(wrong, paper)
                    found += 1
        self.assertGreater(found, 2000)

    def test_bent_certificates(self):
        found = 0
        for claim, paper in RIGHT:
            for at, wrong in enumerate(claims.bent(paper)):
                with self.subTest(claim=claim[0], at=at):
                    self.check(claim, wrong)
                    found += 1
        self.assertGreater(found, 1000)

    def test_certificates_of_other_claims(self):
        accepted = [claim for claim, _ in RIGHT for _, paper in RIGHT if self.check(claim, paper)]
        self.assertGreaterEqual(len(accepted), len(RIGHT))

    def test_other_words(self):
        for claim, paper in RIGHT:
            for word in (*claims.KINDS, "", "Always", "always ", "not  always", "never", "lead", "forts",
                         "some", "not"):
                self.check((word, *claim[1:]), paper)

    def test_certificates_bent_twice(self):
        draw = random.Random(97)
        for claim, paper in RIGHT:
            for once in draw.sample(claims.bent(paper), min(20, len(claims.bent(paper)))):
                if type(once) is tuple:
                    for wrong in claims.bent(once):
                        self.check(claim, wrong)


class AnyValuesTest(CheckerCase):
    def test_any_values(self):
        for claim, paper in itertools.product([*strange_values(), *[each for each, _ in RIGHT]],
                                              [*strange_values(), *[each for _, each in RIGHT]]):
            self.check(claim, paper) if type(claim) is tuple else self.assertIs(self.told(claim, paper), False)

    def test_any_values_at_each_place(self):
        for claim, paper in RIGHT:
            for value in strange_values():
                for at in range(len(claim)):
                    self.check(claim[:at] + (value,) + claim[at + 1:], paper)
                self.check(claim[:1] + (value,) * (len(claim) - 1), value)
                self.check(claim + (value,), paper)
            for many in range(len(claim)):
                self.assertIs(self.told(claim[:many], paper), False)

    def test_deep_and_long_values(self):
        for value in (nested(100), (nested(98), nested(98)), (None,) * 5000, "x" * 6000, ("always",) * 3,
                      ("always", nested(90), nested(90)), ("fort", "a\n" * 3000, ("a",)), ("a",) * 3, (Hostile(),) * 3,
                      (Agreeing(),) * 3, ("always", Hostile(), Hostile()), ("leads", *[Hostile()] * 5)):
            for paper in (value, (), None, nested(100)):
                self.assertIs(self.told(value, paper), False)
            for claim, _ in RIGHT:
                self.assertIs(self.told(claim, value), False)

    def test_texts_that_are_none(self):
        for text in ("", " ", "a b c d ", " " + TEXT, TEXT + "\n", TEXT + " ", TEXT.replace(" > ", ">"),
                     TEXT + "\na > b", TEXT + "\na > a", TEXT + "\na > e", TEXT.upper(), TEXT.replace("\n", " "),
                     TEXT.replace("\n", "\r\n"), FORK, TEXT.split("\n"), (TEXT,), TEXT.encode(), "a b c d a",
                     "a  b c d", FORK.parts, None):
            for lot, paper in ((("a", "b"), (("b", "d"), ("a", "c"))), (FORK.parts, ())):
                self.assertIs(self.told(("always", text, lot), paper), False)
            self.assertIs(self.told(("fort", text, ("c", "b")), ()), False)


class TruthTest(CheckerCase):
    """Claims and certificates that nobody certified, true and false ones."""

    def test_always(self):
        for works in samples.small():
            for lot in plain.lots(works):
                every = list(itertools.permutations(works.parts, 2))
                for many in range(4):
                    for paper in itertools.permutations(every, many):
                        self.check(("always", str(works), lot), paper)

    def test_each_order_of_forces(self):
        for works in samples.drawn(3, 101):
            for lot in samples.some_lots(works):
                found = forces(works, lot)
                for paper in itertools.islice(itertools.permutations(found), 30):
                    told = self.check(("always", str(works), lot), paper)
                    self.assertIs(told and plain.known(works, lot) != works.parts, False)

    def test_forts(self):
        for works in [*samples.small(), FORK, samples.tree(7)]:
            for many in range(min(4, len(works)) + 1):
                for lot in itertools.permutations(works.parts, many):
                    self.check(("fort", str(works), lot), ())

    def test_sometimes(self):
        for works in samples.drawn(4, 103):
            for strengths in samples.drawn_strengths(works):
                for lot in samples.some_lots(works):
                    if self.check(("sometimes", str(works), lot), strengths):
                        self.assertEqual(plain.reached(works, lot), works.parts)

    def test_not_always(self):
        draw = random.Random(107)
        for works in samples.drawn(4, 109):
            for strengths in samples.drawn_strengths(works)[:2]:
                for lot in samples.some_lots(works)[:8]:
                    row = tuple(draw.randint(-1, 1) for _ in works.parts)
                    for ratio in (0, 1, strengths[0][0]):
                        if self.check(("not always", str(works), lot), (strengths, (row, ratio))):
                            self.assertNotEqual(plain.known(works, lot), works.parts)

    def test_bars_of_many_digits(self):
        claim = ("not always", TEXT, ("a",))
        for factor in (10 ** 79, -10 ** 500, 3 ** 1500):
            self.assertIs(self.told(claim, (ZERO, ((0, factor, factor, factor), 0))), True)
            self.assertIs(self.told(claim, (ZERO, ((0, factor, factor, factor + 1), 0))), False)
            self.assertIs(self.told(claim, (ZERO, ((0, factor, factor, factor), factor))), False)

    def test_strengths_beyond_the_bounds(self):
        works = Works(("a", "b"), (("a", "b"),))
        for number, wanted in ((10 ** 6, True), (-10 ** 6, True), (10 ** 6 + 1, False), (-10 ** 6 - 1, False),
                               (10 ** 79, False), (0, False), (True, False)):
            strengths = ((1, 0), (number, 2))
            self.assertIs(self.told(("sometimes", str(works), ("a",)), strengths), wanted)
            self.assertIs(self.told(("leads", str(works), strengths, (), NONE[:2], NONE[:2]), ((),)), wanted)
            self.assertIs(self.told(("not always", str(works), ("b",)), (strengths, ((1, 0), 1))), wanted)

    def test_more_than_twelve_days(self):
        for many in (12, 13, 40):
            pushes, state = (((1, 2),), ((0, 1),)) * (many // 2) + (((-1, 7),),) * (many % 2), NONE
            for push in pushes:
                state = plain.day(LINE, HALF, ("x",), state, push)
            claim = ("leads", ROW, HALF, ("x",), NONE, state)
            self.assertIs(self.check(claim, pushes), True)
            self.assertIs(self.check(claim, pushes[1:]), False)
            self.assertIs(self.check(claim, pushes[:-1]), False)

    def test_states_of_many_digits(self):
        state = plain.written([plain.Fraction(10 ** 300 + 1, 3 ** 200), 2 ** 900, -7])
        push = plain.written([plain.Fraction(-1, 10 ** 400)])
        claim = ("leads", ROW, HALF, ("y",), state, plain.day(LINE, HALF, ("y",), state, push))
        self.assertIs(self.check(claim, (push,)), True)
        self.assertIs(self.check(claim, (((1, 3),),)), False)

    def test_fractions_that_are_not_reduced(self):
        claim = ("leads", ROW, HALF, ("x",), NONE, ((1, 2), (0, 1), (0, 1)))
        told = [((1, 2), True), ((2, 4), False), ((-1, -2), False), ([1, 2], False), ((1, 2, 1), False),
                ((True, 2), False), ("12", False)]
        for fraction, wanted in told:
            self.assertIs(self.told(claim, ((fraction,),)), wanted)
            bent = claim[:5] + ((fraction, (0, 1), (0, 1)),)
            self.assertIs(self.told(bent, (((1, 2),),)), wanted)
        for state in (((0, 2), (0, 1), (0, 1)), ((0, 1), (0, 1)), NONE + ((0, 1),), list(NONE)):
            self.assertIs(self.told(claim[:4] + (state,) + claim[5:], (((1, 2),),)), False)


class CertificatesTest(CheckerCase):
    def test_all_certificates_of_this_package(self):
        draw = random.Random(113)
        for works in [*samples.small(), *samples.shaped(), *samples.drawn(3, 127)]:
            for lot in samples.some_lots(works)[::3]:
                papers = [certify_leaders(works, lot), certify_some(works, lot), certify_fort(works, lot)]
                strengths = draw.choice(samples.drawn_strengths(works))
                first = plain.written(draw.randint(-9, 9) for _ in works.parts)
                pushes = tuple(plain.written(draw.randint(-3, 3) for _ in lot) for _ in range(2))
                last = plain.after(works, strengths, lot, first, pushes)
                papers.append(certify_lead(works, strengths, lot, first, last, 2))
                for pair in papers:
                    if pair is not None:
                        self.assertIs(self.check(*pair), True)

    def test_strengths_of_others_that_bar(self):
        for works in samples.drawn(3, 131):
            for lot in samples.some_lots(works):
                paper = barred(works, lot)
                if paper is not None:
                    strengths, (row, ratio) = paper
                    claim = ("not always", str(works), lot)
                    double = tuple(-2 * number for number in row)
                    self.assertIs(self.told(claim, (strengths, (double, ratio))), True)
                    self.assertIs(self.told(claim, (strengths, ((0,) * len(row), ratio))), False)
                    self.assertIs(self.told(claim, (strengths, (row, ratio + 1))), False)

    def test_eight_parts_all_tied(self):
        works = samples.all_tied(8)
        for many in range(9):
            self.assertIs(self.told(*certify_leaders(works, NAMES[:many])), True)
            if many:
                self.assertIs(self.told(*certify_some(works, NAMES[:many])), True)


if __name__ == "__main__":
    unittest.main()

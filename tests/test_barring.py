"""Barring: what is a bar, strengths that bar, what is a fort, and least forts."""

import itertools
import random
import unittest

import plain
import samples
from forcedsteer.barring import barred, is_bar, is_fort, least_forts
from forcedsteer.works import Works
from samples import FORK, LINE, NAMES
from strange import strange_values

ZERO = ((0, 0, 0, 0), (1, -1, 0, 0), (-1, 0, -1, 0), (0, 1, 1, 0))
HALF = ((1, 0, 0), (1, 2, 0), (0, 1, 3))


class ExamplesTest(unittest.TestCase):
    def test_the_examples(self):
        fork, line, zero = FORK, LINE, ZERO
        told = [is_bar(fork, zero, ("a",), ((0, 1, 1, 1), 0)), is_bar(fork, zero, ("a",), ((0, 1, 1, 2), 0)),
                barred(fork, ("a", "b")), is_fort(fork, ("b", "c")), least_forts(fork), least_forts(line)]
        self.assertEqual(told, [True, False, None, True, (("a",), ("b", "c")), (("x",),)])


class IsBarTest(unittest.TestCase):
    def told(self, works, strengths, leaders, value):
        answer = is_bar(works, strengths, leaders, value)
        self.assertIs(is_bar(works=works, strengths=strengths, leaders=leaders, value=value), answer)
        self.assertIs(type(answer), bool)
        return answer

    def test_all_small_rows_and_ratios(self):
        bars = 0
        for strengths in (HALF, ((0, 0, 0), (1, 0, 0), (0, 1, 0)), ((2, 0, 0), (5, 2, 0), (0, -1, 2))):
            for leaders in plain.lots(LINE):
                for row in itertools.product(range(-2, 3), repeat=3):
                    for ratio in range(-1, 4):
                        wanted = plain.is_bar(LINE, strengths, leaders, (row, ratio))
                        self.assertIs(is_bar(LINE, strengths, leaders, (row, ratio)), wanted)
                        bars += wanted
        self.assertGreater(bars, 20)

    def test_ratios_and_multiples(self):
        for row, wanted in (((1, 0, 0), 1), ((1, 1, 0), 2), ((1, 2, 2), 3), ((0, 0, 1), None), ((0, 0, 0), None)):
            for ratio in (0, 1, 2, 3, 4, -3):
                self.assertIs(self.told(LINE, HALF, (), (row, ratio)), ratio == wanted)
        for factor in (-5, -1, 2, 10 ** 79, -10 ** 79):
            self.assertIs(self.told(FORK, ZERO, ("a",), ((0, factor, factor, factor), 0)), True)
            self.assertIs(self.told(FORK, ZERO, ("a",), ((0, factor, factor, factor + 1), 0)), False)
            self.assertIs(self.told(FORK, ZERO, ("a",), ((0, factor, factor, factor), factor)), False)

    def test_leaders_must_have_nought(self):
        value = ((0, 1, 1, 1), 0)
        for leaders in plain.lots(FORK):
            self.assertIs(self.told(FORK, ZERO, leaders, value), set(leaders) <= {"a"})
            self.assertIs(self.told(FORK, ZERO, leaders[::-1], value), set(leaders) <= {"a"})

    def test_drawn_strengths_and_rows(self):
        draw = random.Random(5)
        for works in samples.drawn(4):
            for strengths in samples.drawn_strengths(works):
                for leaders in samples.some_lots(works)[:8]:
                    row = tuple(draw.randint(-1, 1) for _ in works.parts)
                    for ratio in (0, 1, strengths[-1][-1]):
                        wanted = plain.is_bar(works, strengths, leaders, (row, ratio))
                        self.assertIs(is_bar(works, strengths, leaders, (row, ratio)), wanted)

    def test_one_part(self):
        works = Works(("a",))
        self.assertIs(self.told(works, ((7,),), (), ((-2,), 7)), True)
        self.assertIs(self.told(works, ((7,),), (), ((-2,), 0)), False)
        self.assertIs(self.told(works, ((7,),), ("a",), ((-2,), 7)), False)
        self.assertIs(self.told(works, ((7,),), ("a",), ((0,), 7)), False)
        self.assertIs(self.told(works, ((10 ** 6,),), (), ((1,), 10 ** 6)), True)

    def test_any_value(self):
        row = (0, 1, 1, 1)
        for at, value in enumerate(strange_values()):
            with self.subTest(at=at):
                for wrong in (value, (value,), (row, value), (value, 0), (row, 0, value), [row, 0],
                              ((0, 1, 1, value), 0), ((value, 1, 1, 1), 0), (row + (value,), 0), ((value,) * 4, 0),
                              (row, (value,))):
                    good = (type(value) is int and value in (0, 1)
                            and wrong in ((row, 0), ((0, 1, 1, 1), 0)))
                    self.assertIs(self.told(FORK, ZERO, ("a",), wrong), good)

    def test_nearly_bars(self):
        wrong = [(), ((),), ((), 0), (0, (0, 1, 1, 1)), ((0, 1, 1), 0), ((0, 1, 1, 1, 0), 0), ([0, 1, 1, 1], 0),
                 [(0, 1, 1, 1), 0], ((0, 1, 1, 1),), ((0, 1, 1, 1), 0, 0), ((0, 1, 1, True), 0), ((0, 1, 1, 1), False),
                 ((False, 1, 1, 1), 0), ((0, 1, 1, 1), None), ((0, 1, 1, 1), (0, 1)), ((0, 0, 0, 0), 0), "ab",
                 (((0, 1), (1, 1), (1, 1), (1, 1)), 0), (("", "", "", ""), 0), ((0, 1, 1, 1), "0"), ((1, 1, 1, 1), 0)]
        for value in wrong:
            with self.subTest(value=value):
                self.assertIs(self.told(FORK, ZERO, ("a",), value), False)


class BarredTest(unittest.TestCase):
    def check(self, works, leaders):
        told = barred(works, leaders)
        self.assertEqual(barred(works=works, leaders=leaders), told)
        if told is None:
            self.assertEqual(plain.known(works, leaders), works.parts)
            return
        self.assertNotEqual(plain.known(works, leaders), works.parts)
        self.assertEqual((type(told), len(told)), (tuple, 2))
        strengths, bar = told
        self.assertTrue(plain.are_strengths(works, strengths))
        row, ratio = bar
        self.assertEqual((type(bar), type(row), type(ratio), len(row)), (tuple, tuple, int, len(works)))
        self.assertEqual({type(element) for element in row}, {int})
        self.assertTrue(plain.is_bar(works, strengths, leaders, bar))
        self.assertIs(is_bar(works, strengths, leaders, bar), True)
        self.assertFalse(plain.steers(works, strengths, leaders))

    def test_small_works(self):
        for works in samples.small():
            for lot in plain.lots(works):
                self.check(works, lot)
                self.check(works, lot[::-1])

    def test_shapes_and_drawn_works(self):
        for works in [*samples.shaped(), *samples.drawn(15)]:
            for leaders in samples.some_lots(works):
                self.check(works, leaders)

    def test_no_leaders_and_all_leaders(self):
        for works in samples.shaped():
            self.assertIsNotNone(barred(works, ()))
            self.assertIsNone(barred(works, works.parts))
            self.assertIsNone(barred(works, works.parts[::-1]))

    def test_a_part_that_pushes_seven_parts(self):
        # Seven strengths that are not 0 must sum to 0.
        works = samples.star(8)
        self.check(works, NAMES[:1])
        self.check(samples.all_tied(8), ())
        self.check(samples.all_tied(8), NAMES[:6])


class IsFortTest(unittest.TestCase):
    def test_all_lots_in_any_order(self):
        for works in [*samples.small(), *samples.drawn(2), FORK, LINE]:
            for lot in plain.lots(works)[1:]:
                wanted = plain.is_fort(works, lot)
                for parts in (lot, lot[::-1], lot[1:] + lot[:1]):
                    answer = is_fort(works, parts)
                    self.assertIs(answer, wanted)
                    self.assertIs(is_fort(works=works, parts=parts), wanted)

    def test_plain_forts(self):
        self.assertEqual([is_fort(FORK, (part,)) for part in FORK.parts], [True, False, False, False])
        self.assertEqual([is_fort(FORK, lot) for lot in (("c", "b"), ("b", "d"), ("b", "c", "d"), ("a", "d"))],
                         [True, False, True, False])
        for works in samples.shaped():
            self.assertIs(is_fort(works, works.parts), True)
            self.assertIs(is_fort(works, works.parts[::-1]), True)
        for part in NAMES:
            self.assertIs(is_fort(samples.untied(8), (part,)), True)
            self.assertIs(is_fort(samples.all_tied(8), (part,)), False)


class LeastFortsTest(unittest.TestCase):
    def test_shapes(self):
        for many in range(1, 9):
            parts = NAMES[:many]
            singles = tuple((part,) for part in parts)
            self.assertEqual(least_forts(samples.line(many)), ((NAMES[0],),))
            self.assertEqual(least_forts(samples.untied(many)), singles)
            self.assertEqual(least_forts(samples.gathering(many)), singles[1:] if many > 1 else singles)
            pairs = tuple(itertools.combinations(parts, 2))
            self.assertEqual(least_forts(samples.all_tied(many)), pairs if many > 1 else singles)
            wanted = singles[:1] + tuple(itertools.combinations(parts[1:], 2))
            self.assertEqual(least_forts(samples.star(many)), wanted)
        for many in range(2, 9):
            self.assertEqual(least_forts(samples.ring(many)), (NAMES[:many],))

    def test_many_works(self):
        for works in [*samples.small(), *samples.shaped(), *samples.drawn(6)]:
            forts = [lot for lot in plain.lots(works) if plain.is_fort(works, lot)]
            told = least_forts(works)
            self.assertEqual(told, plain.least(forts))
            self.assertEqual(least_forts(works=works), told)
            self.assertEqual({type(lot) for lot in told}, {tuple})
            for lot in told:
                self.assertIs(is_fort(works, lot), True)

    def test_fewer_parts_stand_ahead_of_earlier_ones(self):
        works = Works(("b", "c", "a"), (("a", "b"), ("a", "c"), ("b", "c"), ("c", "b")))
        self.assertEqual(least_forts(works), (("a",), ("b", "c")))


if __name__ == "__main__":
    unittest.main()

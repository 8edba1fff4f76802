"""Some: what is reached from leaders, roots, and strengths with which leaders steer."""

import unittest

import plain
import samples
from forcedsteer.some import fewest_sometimes, good_strengths, reached, roots, sometimes_steers
from forcedsteer.works import Works
from samples import FORK, LINE, NAMES

# Works and a leader for which some strengths do not steer that look good: own
# elements 0, 1, 2 .. and ties that are all the same, or 1 and 10, 1 and 12, or
# with 1 at ties that do not lead from the leader.
HARD = (
    ("m", "m c x a9;m > c;m > a9;c > m;c > x;a9 > x"),
    ("a9", "m c x a9 t;m > c;m > t;c > m;c > x;x > c;x > a9;a9 > m;a9 > x;t > m;t > x"),
    ("a9", "m c x a9 t;m > x;m > a9;c > a9;x > m;x > a9;x > t;a9 > m;a9 > c;a9 > t;t > x"),
    ("t", "m c x a9 t;c > m;c > x;c > a9;c > t;x > c;x > t;t > m;t > c;t > x;t > a9"),
    ("t", "m c x a9 t;m > a9;c > m;c > x;c > t;x > m;x > c;x > a9;x > t;a9 > m;a9 > c;a9 > x;t > m;t > c;t > x;t > a9"),
    ("t", "m c x a9 t b;m > x;m > a9;m > t;c > t;x > t;a9 > m;a9 > c;a9 > t;t > m;t > a9;t > b;b > x;b > t"),
    ("x", "m c x a9 t b;m > x;m > a9;m > t;c > x;c > t;x > c;a9 > m;a9 > x;t > m;t > c;t > x;t > b;b > c;b > t"),
    ("c", "m c x a9 t;m > c;c > m;c > a9;c > t;x > m;x > c;x > t;a9 > m;a9 > c;t > m;t > x"),
    ("x", "m c x a9 t;m > c;m > x;c > m;c > a9;x > c;x > a9;x > t;a9 > x;t > x;t > a9"),
    ("x", "m c x a9 t b;m > c;m > x;m > a9;m > b;x > a9;a9 > c;a9 > b;t > x;t > a9;t > b;b > m;b > x;b > t"),
)


class ExamplesTest(unittest.TestCase):
    def test_the_examples(self):
        fork = FORK
        told = [sometimes_steers(fork, ("a",)), sometimes_steers(fork, ("b",)), reached(fork, ("b",)),
                good_strengths(fork, ("b",)), fewest_sometimes(fork), roots(fork),
                roots(Works(("p", "q"), (("p", "q"), ("q", "p"))))]
        self.assertEqual(told, [True, False, ("b", "d"), None, 1, ("a",), ("p", "q")])


class ReachedTest(unittest.TestCase):
    def check(self, works, leaders):
        told = plain.reached(works, leaders)
        for answer in (reached(works, leaders), reached(works=works, leaders=leaders)):
            self.assertEqual((answer, type(answer)), (told, tuple))
        for answer in (sometimes_steers(works, leaders), sometimes_steers(works=works, leaders=leaders)):
            self.assertIs(answer, told == works.parts)

    def test_many_works(self):
        for works in samples.small():
            for lot in plain.lots(works):
                self.check(works, lot)
                self.check(works, lot[::-1])
        for works in [*samples.shaped(), *samples.drawn(20)]:
            for leaders in samples.some_lots(works):
                self.check(works, leaders)

    def test_shapes(self):
        for many in range(2, 9):
            for at in range(many):
                part = (NAMES[at],)
                self.assertEqual(reached(samples.line(many), part), NAMES[at:many])
                self.assertEqual(reached(samples.ring(many), part), NAMES[:many])
                self.assertEqual(reached(samples.all_tied(many), part), NAMES[:many])
                self.assertEqual(reached(samples.untied(many), part), part)
                self.assertEqual(reached(samples.star(many), part), part if at else NAMES[:many])
                self.assertEqual(reached(samples.gathering(many), part), NAMES[:1] + part if at else part)

    def test_long_ways_against_the_order_of_the_parts(self):
        for many in range(1, 9):
            works = samples.turned(samples.line(many))
            self.assertEqual(reached(works, (NAMES[0],)), NAMES[:many][::-1])
            self.assertEqual(reached(works, (NAMES[many - 1],)), (NAMES[many - 1],))

    def test_ties_count_in_their_direction(self):
        self.assertIs(sometimes_steers(LINE, ("x",)), True)
        self.assertIs(sometimes_steers(LINE, ("z",)), False)
        self.assertIs(sometimes_steers(LINE, ("z", "y")), False)
        self.assertIs(sometimes_steers(LINE, ()), False)


class GoodStrengthsTest(unittest.TestCase):
    def check(self, works, leaders):
        told = good_strengths(works, leaders)
        self.assertEqual(good_strengths(works=works, leaders=leaders), told)
        if plain.reached(works, leaders) != works.parts:
            self.assertIsNone(told)
            return
        self.assertTrue(plain.are_strengths(works, told))
        self.assertEqual(plain.rank(works, told, leaders), len(works))

    def test_small_works(self):
        for works in samples.small():
            for lot in plain.lots(works):
                self.check(works, lot)
                self.check(works, lot[::-1])

    def test_shapes(self):
        for works in samples.shaped():
            for leaders in [(), works.parts, works.parts[::-1], *[(part,) for part in works.parts]]:
                self.check(works, leaders)

    def test_drawn_works(self):
        for works in samples.drawn(10):
            for leaders in samples.some_lots(works)[:14]:
                self.check(works, leaders)

    def test_one_leader_and_many_ties(self):
        for many in range(1, 9):
            for part in NAMES[:many]:
                self.check(samples.all_tied(many), (part,))
        ties = samples.pairs(8)
        for at in range(0, 56, 5):
            self.check(Works(NAMES, ties[:at] + ties[at + 1:]), (NAMES[0],))
            self.check(Works(NAMES, ties[at:] + ties[:at]), (NAMES[7],))

    def test_works_for_which_strengths_are_hard_to_find(self):
        for leader, text in HARD:
            works = Works.read(text.replace(";", "\n"))
            self.assertIs(sometimes_steers(works, (leader,)), True)
            self.check(works, (leader,))


class RootsTest(unittest.TestCase):
    def check(self, works):
        reaches = {part: set(plain.reached(works, (part,))) for part in works.parts}
        told = tuple(part for part in works.parts
                     if all(other in reaches[part] for other in works.parts if part in reaches[other]))
        for answer in (roots(works), roots(works=works)):
            self.assertEqual((answer, type(answer)), (told, tuple))
        few = min(len(lot) for lot in plain.lots(works) if plain.reached(works, lot) == works.parts)
        for answer in (fewest_sometimes(works), fewest_sometimes(works=works)):
            self.assertEqual((answer, type(answer)), (few, int))

    def test_many_works(self):
        for works in [*samples.small(), *samples.shaped(), *samples.drawn(8)]:
            self.check(works)

    def test_shapes(self):
        for many in range(2, 9):
            parts = NAMES[:many]
            told = [(samples.line(many), parts[:1], 1), (samples.ring(many), parts, 1),
                    (samples.star(many), parts[:1], 1), (samples.gathering(many), parts[1:], many - 1),
                    (samples.tree(many), parts[:1], 1), (samples.all_tied(many), parts, 1),
                    (samples.untied(many), parts, many)]
            for works, wanted, few in told:
                self.assertEqual((roots(works), fewest_sometimes(works)), (wanted, few))
                self.assertEqual(roots(samples.turned(works)), wanted[::-1])
        self.assertEqual((roots(Works(("a",))), fewest_sometimes(Works(("a",)))), (("a",), 1))

    def test_two_rings_that_push_a_third_one(self):
        works = Works(("f", "e", "d", "c", "b", "a"), (
            ("a", "b"), ("b", "a"), ("c", "d"), ("d", "c"), ("e", "f"), ("f", "e"), ("b", "e"), ("d", "f")))
        self.assertEqual((roots(works), fewest_sometimes(works)), (("d", "c", "b", "a"), 2))


if __name__ == "__main__":
    unittest.main()

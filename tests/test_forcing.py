"""Forcing: forces, what becomes known, rounds, what is forces in any order, and what can be spared."""

import itertools
import unittest

import plain
import samples
from forcedsteer.forcing import always_steers, are_forces, forces, known, rounds, spare
from forcedsteer.works import Works
from samples import FORK, LINE, NAMES
from strange import strange_values


class ExamplesTest(unittest.TestCase):
    def test_the_examples(self):
        fork, line = FORK, LINE
        told = [forces(line, ("x",)), forces(fork, ("a",)), known(fork, ("b",)), always_steers(fork, ("a", "b")),
                forces(fork, ("a", "b")), rounds(line, ("x",)), rounds(fork, ("b", "a"))]
        wanted = [(("x", "y"), ("y", "z")), (), ("b", "d"), True, (("a", "c"), ("b", "d")), 2, 1]
        self.assertEqual(told, wanted)
        told = [are_forces(fork, ("a", "b"), (("b", "d"),)), are_forces(fork, ("a",), (("a", "b"),)),
                spare(fork, ("a", "b", "c")), spare(line, ("z",))]
        self.assertEqual(told, [True, False, ("b", "c"), ()])


class ShapesTest(unittest.TestCase):
    """Shapes for which the answers are plain to see."""

    def check(self, works, leaders, told):
        known_parts, many = told
        self.assertEqual(known(works, leaders), known_parts)
        self.assertEqual(rounds(works, leaders), many)
        self.assertIs(always_steers(works, leaders), len(known_parts) == len(works))

    def test_lines(self):
        for many in range(1, 9):
            works = samples.line(many)
            for at in range(many):
                self.check(works, (NAMES[at],), (NAMES[at:many], many - 1 - at))
                told = tuple((NAMES[place], NAMES[place + 1]) for place in range(at, many - 1))
                self.assertEqual(forces(works, (NAMES[at],)), told)
        for many in range(2, 9):
            self.check(samples.line(many), (NAMES[many - 1], NAMES[0]), (NAMES[:many], many - 2))

    def test_rings(self):
        for many in range(2, 9):
            works = samples.ring(many)
            for at in range(many):
                self.check(works, (NAMES[at],), (NAMES[:many], many - 1))

    def test_stars(self):
        for many in range(3, 9):
            works = samples.star(many)
            self.check(works, (NAMES[0],), (NAMES[:1], 0))
            self.check(works, NAMES[1:many], (NAMES[1:many], 0))
            self.check(works, NAMES[:many - 1], (NAMES[:many], 1))
            self.assertEqual(forces(works, NAMES[:many - 1][::-1]), ((NAMES[0], NAMES[many - 1]),))

    def test_parts_that_gather(self):
        for many in range(2, 9):
            works = samples.gathering(many)
            for at in range(1, many):
                told = tuple(part for part in NAMES[:many] if part in (NAMES[0], NAMES[at]))
                self.check(works, (NAMES[at],), (told, 1))

    def test_trees(self):
        works = samples.tree(7)
        self.check(works, NAMES[:1], (NAMES[:1], 0))
        self.check(works, (NAMES[0], NAMES[1]), (NAMES[:3], 1))
        self.check(works, (NAMES[0], NAMES[1], NAMES[3], NAMES[5]), (NAMES[:7], 2))
        told = ((NAMES[0], NAMES[2]), (NAMES[1], NAMES[4]), (NAMES[2], NAMES[6]))
        self.assertEqual(forces(works, (NAMES[5], NAMES[3], NAMES[1], NAMES[0])), told)

    def test_all_tied(self):
        for many in range(1, 9):
            works = samples.all_tied(many)
            for lot in plain.lots(works):
                enough = len(lot) >= many - 1 and len(lot) > 0
                self.check(works, lot, (NAMES[:many], many - len(lot)) if enough else (lot, 0))

    def test_without_ties(self):
        for many in range(1, 9):
            works = samples.untied(many)
            for lot in plain.lots(works):
                self.check(works, lot, (lot, 0))
                self.assertEqual(forces(works, lot), ())

    def test_no_leaders_and_all_leaders(self):
        for works in samples.shaped():
            self.check(works, (), ((), 0))
            self.check(works, works.parts, (works.parts, 0))
            self.check(works, works.parts[::-1], (works.parts, 0))
            for leaders in ((), works.parts, works.parts[::-1]):
                self.assertEqual(forces(works, leaders), ())


class OrderTest(unittest.TestCase):
    def test_the_first_part_by_the_order_of_the_parts_goes_first(self):
        ties = (("b", "x"), ("a", "y"), ("x", "a"))
        for ties in itertools.permutations(ties):
            for leaders in (("a", "b"), ("b", "a")):
                works = Works(("b", "a", "y", "x"), ties)
                self.assertEqual(forces(works, leaders), (("b", "x"), ("a", "y")))
                works = Works(("x", "a", "y", "b"), ties)
                self.assertEqual(forces(works, leaders), (("a", "y"), ("b", "x")))

    def test_a_part_that_becomes_known_may_go_ahead_of_others(self):
        works = Works(("c", "a", "b", "d", "e"), (("a", "c"), ("b", "e"), ("c", "d")))
        self.assertEqual(forces(works, ("b", "a")), (("a", "c"), ("c", "d"), ("b", "e")))
        self.assertEqual(rounds(works, ("b", "a")), 2)

    def test_the_first_part_goes_as_soon_as_it_pushes_just_one(self):
        works = Works(("a", "b", "c", "d", "e", "f"), (("a", "d"), ("a", "e"), ("b", "d"), ("c", "f")))
        self.assertEqual(forces(works, ("c", "b", "a")), (("b", "d"), ("a", "e"), ("c", "f")))
        self.assertEqual(forces(works, ("e", "c", "a")), (("a", "d"), ("c", "f")))

    def test_two_parts_can_make_one_known(self):
        works = Works(("a", "b", "c"), (("a", "c"), ("b", "c")))
        self.assertEqual(forces(works, ("b", "a")), (("a", "c"),))
        self.assertEqual(rounds(works, ("b", "a")), 1)

    def test_a_round_looks_at_its_beginning(self):
        # Within the round a makes c known, so b would push d alone only behind it.
        works = Works(("a", "b", "c", "d"), (("a", "c"), ("b", "c"), ("b", "d")))
        self.assertEqual(forces(works, ("a", "b")), (("a", "c"), ("b", "d")))
        self.assertEqual(rounds(works, ("a", "b")), 2)

    def test_the_order_of_the_leaders_changes_nothing(self):
        for works in samples.drawn(2):
            for leaders in itertools.islice(itertools.permutations(works.parts, min(3, len(works))), 40):
                ordered = plain.in_order(works, leaders)
                for call in (forces, known, always_steers, rounds):
                    self.assertEqual(call(works, leaders), call(works, ordered))
                self.assertEqual(sorted(spare(works, leaders)), sorted(spare(works, ordered)))


class DocumentTest(unittest.TestCase):
    """The words of the document, over many works."""

    def check(self, works, leaders):
        self.assertEqual(forces(works, leaders), plain.forces(works, leaders))
        told = plain.known(works, leaders)
        self.assertEqual(known(works, leaders), told)
        self.assertIs(always_steers(works, leaders), told == works.parts)
        many = rounds(works, leaders)
        self.assertEqual((many, type(many)), (plain.rounds(works, leaders), int))
        needless = [part for part in leaders
                    if plain.known(works, [other for other in leaders if other != part]) == works.parts]
        self.assertEqual(spare(works, leaders), tuple(needless))

    def test_small_works(self):
        for works in samples.small():
            for lot in plain.lots(works):
                for leaders in itertools.permutations(lot):
                    self.check(works, leaders)

    def test_shapes_and_drawn_works(self):
        for works in [*samples.shaped(), *samples.drawn(30)]:
            for leaders in samples.some_lots(works):
                self.check(works, leaders)

    def test_results_are_tuples_of_tuples(self):
        for works in samples.drawn(5):
            for leaders in samples.some_lots(works):
                for told in (forces(works, leaders), known(works, leaders), spare(works, leaders)):
                    self.assertIs(type(told), tuple)
                for force in forces(works, leaders):
                    self.assertIs(type(force), tuple)


class SpareTest(unittest.TestCase):
    def test_in_the_order_of_the_leaders(self):
        for leaders in itertools.permutations(("a", "b", "c")):
            told = tuple(part for part in leaders if part != "a")
            self.assertEqual(spare(FORK, leaders), told)
        self.assertEqual(spare(FORK, ("d", "c", "b", "a")), ("d", "c", "b"))

    def test_each_leader_by_itself(self):
        # Each of two can be spared, but not both.
        self.assertEqual(spare(samples.ring(3), (NAMES[2], NAMES[0])), (NAMES[2], NAMES[0]))
        self.assertEqual(spare(samples.ring(3), (NAMES[2],)), ())

    def test_where_the_leaders_do_not_always_steer(self):
        self.assertEqual(spare(FORK, ("a", "d")), ())
        self.assertEqual(spare(FORK, ()), ())
        self.assertEqual(spare(samples.untied(3), NAMES[:3]), ())


class AreForcesTest(unittest.TestCase):
    def told(self, works, leaders, value):
        answer = are_forces(works, leaders, value)
        self.assertIs(are_forces(works=works, leaders=leaders, value=value), answer)
        self.assertIn(answer, (True, False))
        self.assertIs(type(answer), bool)
        return answer

    def test_every_order_of_forces_and_their_parts(self):
        for works in samples.drawn(8):
            for leaders in samples.some_lots(works)[:9]:
                found = forces(works, leaders)
                for value in itertools.islice(itertools.permutations(found), 24):
                    self.assertIs(self.told(works, leaders, value), plain.are_forces(works, leaders, value))
                for many in range(len(found) + 1):
                    self.assertIs(self.told(works, leaders, found[:many]), True)

    def test_all_tuples_of_pairs(self):
        works = Works(("b", "a", "c"), (("a", "b"), ("b", "c"), ("a", "c")))
        every = list(itertools.product(works.parts, repeat=2))
        for lot in plain.lots(works):
            for many in range(4):
                for value in itertools.product(every, repeat=many):
                    self.assertIs(are_forces(works, lot, value), plain.are_forces(works, lot, value))

    def test_not_all_parts_need_become_known(self):
        for leaders in ((), ("a",), ("a", "b"), FORK.parts):
            self.assertIs(self.told(FORK, leaders, ()), True)
        self.assertIs(self.told(LINE, ("x",), (("x", "y"),)), True)

    def test_what_is_no_force_at_its_time(self):
        wrong = [(LINE, ("x",), (("y", "z"),)), (LINE, ("x",), (("y", "z"), ("x", "y"))),
                 (LINE, ("x",), (("x", "y"), ("x", "y"))), (LINE, ("x",), (("x", "z"),)),
                 (LINE, ("x", "y"), (("x", "y"),)), (LINE, ("x",), (("x", "x"),)), (LINE, ("y",), (("y", "x"),)),
                 (FORK, ("a",), (("a", "b"), ("a", "c"))), (FORK, (), (("a", "b"),)),
                 (FORK, ("a", "b"), (("c", "d"), ("a", "c"))), (LINE, ("x",), (("x", "y"), ("y", "z"), ("z", "x")))]
        for works, leaders, value in wrong:
            with self.subTest(value=value):
                self.assertIs(self.told(works, leaders, value), False)
        self.assertIs(self.told(FORK, ("a", "b"), (("a", "c"), ("c", "d"))), True)

    def test_any_value(self):
        for at, value in enumerate(strange_values()):
            with self.subTest(at=at):
                empty = isinstance(value, tuple) and len(value) == 0
                self.assertIs(self.told(LINE, ("x",), value), empty)
                for wrong in ((value,), (("x", value),), ((value, "y"),), (("x", "y"), value),
                              (("x", "y"), ("y", value)), (("x", "y", value),), (value, ("x", "y")), [value],
                              (("x", "y"), ("y", "z"), value)):
                    self.assertIs(self.told(LINE, ("x",), wrong), False)

    def test_nearly_forces(self):
        wrong = [[("x", "y")], (["x", "y"],), ("xy",), ("x", "y"), "xy", (("x", "y", "z"),), (("x",),), ((),),
                 (("x", "yy"),), (("x ", "y"),), ((b"x", b"y"),), {("x", "y"): 1}, {("x", "y")}, ((("x", "y"),),),
                 LINE, (LINE,)]
        for value in wrong:
            self.assertIs(self.told(LINE, ("x",), value), False)


if __name__ == "__main__":
    unittest.main()

"""Leading: which lots of leaders always steer works, how few they are, and how many lots there are."""

import itertools
import math
import unittest

import plain
import samples
from forcedsteer.forcing import always_steers, spare
from forcedsteer.leading import all_least, fewest, least_leaders, lots_with
from forcedsteer.works import Works
from samples import FORK, LINE, NAMES


class ExamplesTest(unittest.TestCase):
    def test_the_examples(self):
        fork, line = FORK, LINE
        told = [least_leaders(fork), fewest(fork), lots_with(fork, 2), lots_with(fork, 3), all_least(line),
                least_leaders(Works(("p", "q")))]
        self.assertEqual(told, [(("a", "b"), ("a", "c")), 2, 2, 3, (("x",),), (("p", "q"),)])


class ShapesTest(unittest.TestCase):
    def check(self, works, least):
        self.assertEqual(least_leaders(works), least)
        self.assertEqual(fewest(works), len(least[0]))
        self.assertEqual(all_least(works)[:len(least)], least)

    def test_lines_and_rings(self):
        for many in range(1, 9):
            self.check(samples.line(many), ((NAMES[0],),))
            self.assertEqual(all_least(samples.line(many)), ((NAMES[0],),))
        for many in range(2, 9):
            self.check(samples.ring(many), tuple((part,) for part in NAMES[:many]))

    def test_stars_and_parts_that_gather(self):
        for many in range(2, 9):
            parts = NAMES[:many]
            self.check(samples.star(many),
                       tuple(parts[:1] + lot for lot in itertools.combinations(parts[1:], many - 2)))
            self.check(samples.gathering(many), (parts[1:],))

    def test_all_tied_and_without_ties(self):
        for many in range(1, 9):
            parts = NAMES[:many]
            self.check(samples.untied(many), (parts,))
            self.check(samples.all_tied(many), tuple(itertools.combinations(parts, max(1, many - 1))))

    def test_lots_without_a_needless_leader_that_are_not_the_fewest(self):
        # Parts that push one another in a row: an end is enough, or two neighbours between the ends.
        pairs = tuple(zip("abcd", "bcd"))
        works = Works(("a", "b", "c", "d"), pairs + tuple(pair[::-1] for pair in pairs))
        self.assertEqual(all_least(works), (("a",), ("d",), ("b", "c")))
        self.assertEqual(least_leaders(works), (("a",), ("d",)))
        self.assertEqual([lots_with(works, many) for many in range(6)], [0, 2, 6, 4, 1, 0])

    def test_the_order_of_the_parts_orders_the_lots(self):
        works = Works(("d", "b", "c", "a"), FORK.ties)
        self.assertEqual(least_leaders(works), (("b", "a"), ("c", "a")))
        self.assertEqual(all_least(Works(("z", "p", "q", "a"), (("z", "p"), ("p", "z"), ("a", "q"), ("q", "a")))),
                         (("z", "q"), ("z", "a"), ("p", "q"), ("p", "a")))


class LotsWithTest(unittest.TestCase):
    def test_from_none_to_eight(self):
        for works in [*samples.small(), *samples.shaped(), *samples.drawn(5)]:
            steering = [lot for lot in plain.lots(works) if plain.known(works, lot) == works.parts]
            for many in range(9):
                told = lots_with(works, many)
                self.assertEqual((told, type(told)), (sum(len(lot) == many for lot in steering), int))
                self.assertEqual(lots_with(works=works, many=many), told)

    def test_plain_numbers(self):
        for many in range(1, 9):
            for enough in range(9):
                told = math.comb(many - 1, enough - 1) if enough else 0
                self.assertEqual(lots_with(samples.line(many), enough), told)
                self.assertEqual(lots_with(samples.untied(many), enough), int(enough == many))
        self.assertEqual([lots_with(samples.all_tied(8), many) for many in range(9)], [0] * 7 + [8, 1])


class DocumentTest(unittest.TestCase):
    """Least lots are least, all of them are told, in the order that is written."""

    def test_many_works(self):
        for works in [*samples.small(), *samples.shaped(), *samples.drawn(8)]:
            steering = [lot for lot in plain.lots(works) if plain.known(works, lot) == works.parts]
            few = len(steering[0])
            least, every = least_leaders(works), all_least(works)
            self.assertEqual(least, tuple(lot for lot in steering if len(lot) == few))
            self.assertEqual(every, plain.least(steering))
            self.assertEqual((fewest(works), type(fewest(works))), (few, int))
            self.assertEqual((least_leaders(works=works), all_least(works=works), fewest(works=works)),
                             (least, every, few))
            self.assertEqual({type(lot) for lot in [least, every, *least, *every]}, {tuple})
            self.assertEqual(lots_with(works, few), len(least))
            for lot in every:
                self.assertIs(always_steers(works, lot), True)
                self.assertEqual(spare(works, lot), ())


if __name__ == "__main__":
    unittest.main()

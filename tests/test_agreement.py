"""What the document says in brackets: forcing, forts, bars, least lots and roots held against one another."""

import unittest

import plain
import samples
from forcedsteer.barring import barred, is_bar, is_fort, least_forts
from forcedsteer.forcing import always_steers, are_forces, forces, known, rounds
from forcedsteer.leading import all_least, fewest, least_leaders, lots_with
from forcedsteer.some import fewest_sometimes, good_strengths, reached, roots, sometimes_steers


def each_case(works_told):
    """Each of these works with all lots of leaders, or with some of them where there are many."""
    for works in works_told:
        for leaders in plain.lots(works) if len(works) <= 3 else samples.some_lots(works):
            yield works, leaders


class AgreementTest(unittest.TestCase):
    @classmethod
    def setUpClass(cls):
        cls.works = [*samples.small(), *samples.shaped(), *samples.drawn(8, seed=23)]

    def test_leaders_always_steer_exactly_if_each_fort_has_one_in_it(self):
        for works in self.works:
            forts = [lot for lot in plain.lots(works)[1:] if is_fort(works, lot)]
            least = least_forts(works)
            for leaders in samples.some_lots(works):
                sure = always_steers(works, leaders)
                self.assertIs(all(set(lot) & set(leaders) for lot in forts), sure)
                self.assertIs(all(set(lot) & set(leaders) for lot in least), sure)

    def test_each_fort_has_a_least_fort_in_it_and_no_least_fort_another_one(self):
        for works in self.works:
            least = least_forts(works)
            for lot in plain.lots(works)[1:]:
                if is_fort(works, lot):
                    self.assertTrue(any(set(fort) <= set(lot) for fort in least))
            for fort in least:
                for lot in plain.lots(works)[1:]:
                    if set(lot) < set(fort):
                        self.assertIs(is_fort(works, lot), False)

    def test_the_parts_that_do_not_become_known_are_a_fort(self):
        for works, leaders in each_case(self.works):
            sure = known(works, leaders)
            rest = tuple(part for part in works.parts if part not in sure)
            self.assertIs(always_steers(works, leaders), rest == ())
            if rest:
                self.assertIs(is_fort(works, rest), True)
                self.assertFalse(set(rest) & set(leaders))

    def test_forces_make_known_what_becomes_known(self):
        for works, leaders in each_case(self.works):
            found = forces(works, leaders)
            self.assertIs(are_forces(works, leaders, found), True)
            sure = set(leaders) | {other for _, other in found}
            self.assertEqual(known(works, leaders), plain.in_order(works, sure))
            self.assertEqual(len(sure), len(leaders) + len(found))
            self.assertLessEqual(rounds(works, leaders), len(found))
            self.assertIs(rounds(works, leaders) == 0, found == ())

    def test_strengths_bar_exactly_where_the_leaders_do_not_always_steer(self):
        for works, leaders in each_case(self.works):
            told = barred(works, leaders)
            self.assertIs(told is None, always_steers(works, leaders))
            if told is not None:
                strengths, bar = told
                self.assertTrue(plain.are_strengths(works, strengths))
                self.assertIs(is_bar(works, strengths, leaders, bar), True)
                self.assertFalse(plain.steers(works, strengths, leaders))

    def test_what_always_steers_does_so_with_drawn_strengths(self):
        for works in self.works:
            for leaders in all_least(works)[:3]:
                for strengths in samples.drawn_strengths(works):
                    self.assertTrue(plain.steers(works, strengths, leaders))

    def test_good_strengths_steer_exactly_where_each_part_is_reached(self):
        for works, leaders in each_case(self.works):
            told = good_strengths(works, leaders)
            self.assertIs(told is not None, reached(works, leaders) == works.parts)
            self.assertIs(told is not None, sometimes_steers(works, leaders))
            if told is not None:
                self.assertTrue(plain.are_strengths(works, told))
                self.assertEqual(plain.rank(works, told, leaders), len(works))

    def test_no_strengths_steer_where_some_part_is_not_reached(self):
        for works, leaders in each_case(samples.drawn(6, seed=29)):
            if not sometimes_steers(works, leaders):
                for strengths in samples.drawn_strengths(works):
                    self.assertFalse(plain.steers(works, strengths, leaders))

    def test_what_always_steers_does_so_sometimes(self):
        for works, leaders in each_case(self.works):
            if always_steers(works, leaders):
                self.assertIs(sometimes_steers(works, leaders), True)
            self.assertTrue(set(known(works, leaders)) <= set(reached(works, leaders)))

    def test_least_lots_are_those_that_meet_each_least_fort(self):
        for works in self.works:
            forts = least_forts(works)
            meeting = [lot for lot in plain.lots(works) if all(set(lot) & set(fort) for fort in forts)]
            self.assertEqual(all_least(works), plain.least(meeting))
            self.assertEqual(fewest(works), len(meeting[0]))
            self.assertEqual(least_leaders(works), tuple(lot for lot in meeting if len(lot) == len(meeting[0])))
            for many in range(9):
                self.assertEqual(lots_with(works, many), sum(len(lot) == many for lot in meeting))

    def test_leaders_sometimes_steer_exactly_if_each_root_is_reached(self):
        for works, leaders in each_case(self.works):
            told = set(roots(works)) <= set(reached(works, leaders))
            self.assertIs(sometimes_steers(works, leaders), told)
            self.assertIs(sometimes_steers(works, roots(works)), True)
            if told:
                self.assertGreaterEqual(len(leaders), fewest_sometimes(works))
        for works in self.works:
            self.assertLessEqual(fewest_sometimes(works), fewest(works))


if __name__ == "__main__":
    unittest.main()

"""Mending: least sets of offers, and what holds in all ways of doubtful ties."""

import itertools
import random
import unittest

import plain
import samples
from forcedsteer.errors import InvalidDoubts, InvalidOffers
from forcedsteer.forcing import always_steers, known
from forcedsteer.leading import all_least
from forcedsteer.mending import doubtful, mending, surely_known, telling_doubt
from forcedsteer.works import Works
from samples import FORK, LINE, NAMES
from strange import catch


def all_offers(works, leaders):
    """Each tuple that is an offer for these works and leaders."""
    found = [("lead", part) for part in works.parts if part not in leaders]
    for one, other in itertools.permutations(works.parts, 2):
        found.append(("cut" if (one, other) in works.ties else "tie", one, other))
    return found


def all_doubts(works):
    """Each pair that may be doubtful."""
    return [pair for pair in itertools.permutations(works.parts, 2) if pair not in works.ties]


def each_case(each, seed, choose):
    """Drawn works, leaders in any order, and up to six of what this function tells of them."""
    draw = random.Random(seed)
    for works in samples.drawn(each, seed):
        for leaders in samples.some_lots(works, seed)[:10:3] + samples.some_lots(works, seed)[-3:]:
            told = choose(works, leaders)
            for many in (2, 6):
                yield works, leaders, tuple(draw.sample(told, min(len(told), draw.randint(0, many))))
            yield works, leaders, tuple(draw.sample(told, min(len(told), 6)))


class ExamplesTest(unittest.TestCase):
    def test_the_examples(self):
        fork, line = FORK, LINE
        told = [mending(fork, ("a",), (("lead", "c"), ("cut", "a", "b"), ("tie", "d", "b"))), mending(line, ("x",), ()),
                mending(fork, ("a",), ())]
        self.assertEqual(told, [((0,), (1, 2)), ((),), ()])
        told = [doubtful(line, ("x",), (("x", "z"), ("y", "x"))), telling_doubt(line, ("x",), (("x", "z"), ("y", "x"))),
                surely_known(line, ("x",), (("x", "z"),))]
        self.assertEqual(told, [2, 1, ("x",)])


class MendingTest(unittest.TestCase):
    def test_many_works(self):
        sizes = set()
        for works, leaders, offers in each_case(6, 31, all_offers):
            told = mending(works, leaders, offers)
            _, wanted = plain.mending(works, leaders, offers)
            self.assertEqual(told, wanted)
            self.assertEqual(mending(works=works, leaders=leaders, offers=offers), told)
            self.assertIs(type(told), tuple)
            for chosen in told:
                self.assertIs(type(chosen), tuple)
                self.assertTrue(all(type(at) is int for at in chosen))
                sizes.add(len(chosen))
            self.assertEqual(list(told), sorted(told, key=lambda chosen: (len(chosen), chosen)))
        self.assertTrue(sizes >= {0, 1, 2, 3})

    def test_all_offers_for_small_works(self):
        for works in samples.small():
            for leaders in plain.lots(works):
                offers = tuple(all_offers(works, leaders))
                for chosen in (offers[:6], offers[::-1][:6], offers[:1], offers[2:4]):
                    self.assertEqual(mending(works, leaders, chosen), plain.mending(works, leaders, chosen)[1])

    def test_leaders_alone(self):
        # Offers of leaders alone are enough together exactly if the leaders always steer.
        for works in [works for works in samples.drawn(6, 33) if len(works) <= 6]:
            offers = tuple(("lead", part) for part in works.parts)
            wanted = tuple(tuple(works.parts.index(part) for part in lot) for lot in all_least(works))
            self.assertEqual(mending(works, (), offers), wanted)

    def test_one_offer_more_may_spoil_it(self):
        line = Works(("a", "b", "c", "d"), (("a", "b"), ("b", "c")))
        offers = (("tie", "c", "d"), ("tie", "a", "c"), ("cut", "b", "c"))
        enough, _ = plain.mending(line, ("a",), offers)
        self.assertEqual(enough, [(0,)])
        self.assertEqual(mending(line, ("a",), offers), ((0,),))
        # The empty set does it here, so each other one is not least, whatever it does.
        offers = (("cut", "x", "y"), ("lead", "y"))
        self.assertEqual([mending(LINE, ("x",), offers[:many]) for many in range(3)], [((),), ((),), ((),)])

    def test_sets_that_do_it_may_have_sets_between_them_that_do_not(self):
        found = 0
        for works, leaders, offers in each_case(6, 35, all_offers):
            enough, _ = plain.mending(works, leaders, offers)
            full = tuple(range(len(offers)))
            between = [set(full) - {at} for at in full]
            if (full in enough and () in enough and len(full) > 1
                    and not all(tuple(sorted(chosen)) in enough for chosen in between)):
                found += 1
                self.assertEqual(mending(works, leaders, offers), ((),))
        self.assertGreater(found, 3)

    def test_the_order_of_the_offers_is_that_of_the_indexes(self):
        offers = (("lead", "c"), ("cut", "a", "b"), ("tie", "d", "b"))
        for places in itertools.permutations(range(3)):
            told = mending(FORK, ("a",), tuple(offers[at] for at in places))
            self.assertEqual({tuple(sorted(places[at] for at in chosen)) for chosen in told}, {(0,), (1, 2)})
            self.assertEqual([len(chosen) for chosen in told], [1, 2])

    def test_the_offers_hang_on_the_leaders(self):
        self.assertEqual(mending(FORK, ("a",), (("lead", "b"),)), ((0,),))
        self.assertEqual(catch(self, InvalidOffers, lambda: mending(FORK, ("b",), (("lead", "b"),))).index, 0)
        self.assertEqual(mending(FORK, ("b",), (("lead", "a"),)), ((0,),))
        error = catch(self, InvalidOffers, lambda: mending(FORK, ("b", "a"), (("lead", "d"), ("lead", "a"))))
        self.assertEqual(error.index, 1)

    def test_six_offers(self):
        works = samples.untied(7)
        offers = tuple(("tie", one, other) for one, other in zip(NAMES, NAMES[1:7]))
        self.assertEqual(mending(works, NAMES[:1], offers), ((0, 1, 2, 3, 4, 5),))
        self.assertEqual(mending(works, NAMES[1:2], offers), ())
        error = catch(self, InvalidOffers, lambda: mending(works, NAMES[:1], offers + (("lead", NAMES[1]),)))
        self.assertEqual(error.index, 6)


class DoubtsTest(unittest.TestCase):
    """The three functions that look at doubtful ties."""

    def check(self, works, leaders, doubts):
        ways = plain.ways(works, leaders, doubts)
        good = [there for there, told in ways if told == works.parts]
        many = doubtful(works, leaders, doubts)
        self.assertEqual((many, type(many)), (len(good), int))
        sure = tuple(part for part in works.parts if all(part in told for _, told in ways))
        self.assertEqual(surely_known(works, leaders, doubts), sure)
        told = telling_doubt(works, leaders, doubts)
        self.assertNotIsInstance(told, bool)
        if len(good) in (0, len(ways)):
            self.assertIsNone(told)
            return None
        greater = [max(sum(doubt in there for there in good), sum(doubt not in there for there in good))
                   for doubt in doubts]
        self.assertEqual(told, greater.index(min(greater)))
        return told

    def test_many_works(self):
        told = [self.check(*case) for case in each_case(8, 37, lambda works, _: all_doubts(works))]
        for at in (None, 0, 1, 2):
            self.assertGreater(told.count(at), 3)

    def test_small_works(self):
        for works in samples.small():
            for leaders in plain.lots(works):
                for doubts in itertools.permutations(all_doubts(works)[:4]):
                    self.check(works, leaders, doubts)
                self.check(works, leaders[::-1], tuple(all_doubts(works)))

    def test_no_doubts(self):
        for works in samples.shaped():
            for leaders in ((), works.parts[:1], works.parts):
                self.assertEqual(doubtful(works, leaders, ()), int(always_steers(works, leaders)))
                self.assertIsNone(telling_doubt(works, leaders, ()))
                self.assertEqual(surely_known(works, leaders, ()), known(works, leaders))

    def test_no_way_and_every_way(self):
        doubts = (("b", "c"), ("d", "a"), ("a", "d"), ("c", "a"), ("d", "b"), ("d", "c"))
        for leaders, wanted in (((), 0), (FORK.parts, 64), (("d", "c", "b", "a"), 64)):
            self.assertEqual(doubtful(FORK, leaders, doubts), wanted)
            self.assertIsNone(telling_doubt(FORK, leaders, doubts))
            self.assertEqual(surely_known(FORK, leaders, doubts), plain.in_order(FORK, leaders))

    def test_the_first_of_those_that_tell_as_much(self):
        works = samples.untied(3)
        one, other = (NAMES[0], NAMES[1]), (NAMES[1], NAMES[2])
        for doubts in ((one, other), (other, one)):
            self.assertEqual(doubtful(works, NAMES[:1], doubts), 1)
            self.assertEqual(telling_doubt(works, NAMES[:1], doubts), 0)

    def test_a_seventh_doubt_and_one_that_is_a_tie(self):
        doubts = (("b", "c"), ("d", "a"), ("a", "d"), ("c", "a"), ("d", "b"), ("d", "c"))
        for call in (doubtful, telling_doubt, surely_known):
            call(FORK, ("a",), doubts)
            wrong_ones = [(doubts + (("c", "b"),), 6), (doubts[:2] + (("a", "b"),), 2), (doubts[:3] + doubts[1:2], 3)]
            for wrong, at in wrong_ones:
                error = catch(self, InvalidDoubts, lambda value=wrong, ask=call: ask(FORK, ("a",), value))
                self.assertEqual(error.index, at)


if __name__ == "__main__":
    unittest.main()

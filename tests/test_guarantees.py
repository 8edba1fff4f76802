"""The guarantees of the document over the whole program: its modules held against one another on many works."""

import itertools
import random
import unittest

import plain
import samples
from forcedsteer.barring import barred, is_bar, least_forts
from forcedsteer.boards import Board
from forcedsteer.books import Book
from forcedsteer.certificates import certify_fort, certify_lead, certify_leaders, certify_some
from forcedsteer.checker import accepts
from forcedsteer.console import Console
from forcedsteer.days import after, day, lead, rank, soonest, steers
from forcedsteer.errors import Broken, NoWay
from forcedsteer.forcing import always_steers, forces, known, rounds
from forcedsteer.leading import all_least, fewest, lots_with
from forcedsteer.mending import doubtful, mending, surely_known, telling_doubt
from forcedsteer.some import good_strengths, reached, sometimes_steers
from forcedsteer.telling import fits, strengths_seen, ties_seen
from forcedsteer.works import Works
from samples import NAMES


def each_case(works_told):
    for works in works_told:
        for leaders in plain.lots(works) if len(works) <= 3 else samples.some_lots(works)[::2]:
            yield works, leaders


def all_strengths(works, numbers):
    """All strengths of these works with such elements."""
    choices = []
    for part, other in itertools.product(works.parts, repeat=2):
        free = part == other
        choices.append([number for number in numbers if free or (number != 0) == ((other, part) in works.ties)])
    many = len(works)
    for flat in itertools.product(*choices):
        yield tuple(flat[at * many:(at + 1) * many] for at in range(many))


def drawn_state(draw, many):
    return plain.written(plain.Fraction(draw.randint(-9, 9), draw.choice((1, 2, 5))) for _ in range(many))


class GuaranteesCase(unittest.TestCase):
    @classmethod
    def setUpClass(cls):
        cls.works = [*samples.small(), *samples.shaped(), *samples.drawn(4, seed=151)]


class AlwaysTest(GuaranteesCase):
    def test_with_all_small_strengths(self):
        for many in (1, 2):
            for bits in itertools.product((False, True), repeat=many * (many - 1)):
                works = Works(NAMES[:many], tuple(itertools.compress(samples.pairs(many), bits)))
                for leaders in plain.lots(works):
                    told = {steers(works, strengths, leaders) for strengths in all_strengths(works, range(-2, 3))}
                    self.assertIs(always_steers(works, leaders), told == {True})
                    self.assertIs(sometimes_steers(works, leaders), True in told)

    def test_with_drawn_strengths(self):
        for works, leaders in each_case(self.works):
            always, some = always_steers(works, leaders), sometimes_steers(works, leaders)
            for strengths in samples.drawn_strengths(works)[:3]:
                told = steers(works, strengths, leaders)
                self.assertTrue(told or not always)
                self.assertTrue(some or not told)

    def test_with_told_strengths(self):
        for works, leaders in each_case(self.works):
            paper, good = barred(works, leaders), good_strengths(works, leaders)
            self.assertIs(paper is None, always_steers(works, leaders))
            if paper is not None:
                strengths, bar = paper
                self.assertIs(steers(works, strengths, leaders), False)
                self.assertIs(is_bar(works, strengths, leaders, bar), True)
            self.assertIs(good is None, not sometimes_steers(works, leaders))
            if good is not None:
                self.assertEqual(rank(works, good, leaders), len(works))

    def test_each_least_lot_and_no_lot_below_it(self):
        for works in self.works:
            least = all_least(works)
            for lot in plain.lots(works)[:60]:
                self.assertIs(always_steers(works, lot), any(set(other) <= set(lot) for other in least))
            self.assertEqual(min(len(lot) for lot in least), fewest(works))
            self.assertIs(lots_with(works, fewest(works)) > 0, True)
            for fort in least_forts(works):
                self.assertTrue(all(set(fort) & set(lot) for lot in least))


class BarTest(GuaranteesCase):
    def test_the_sum_is_multiplied_by_the_ratio_each_day(self):
        draw = random.Random(157)
        for works, leaders in each_case(self.works):
            paper = barred(works, leaders)
            if paper is None:
                continue
            strengths, (row, ratio) = paper
            state = drawn_state(draw, len(works))
            push = drawn_state(draw, len(leaders))
            sums = [sum(factor * value for factor, value in zip(row, plain.numbers(told)))
                    for told in (state, day(works, strengths, leaders, state, push))]
            self.assertEqual(sums[1], ratio * sums[0])

    def test_no_way_across_a_bar(self):
        for works, leaders in each_case(samples.drawn(3, 163)):
            paper = barred(works, leaders)
            if paper is None:
                continue
            strengths, (row, _) = paper
            none = plain.written([0] * len(works))
            self.assertIsNone(soonest(works, strengths, leaders, none, plain.written(row)))
            for many in (0, 1, len(works), 12):
                with self.assertRaises(NoWay):
                    lead(works, strengths, leaders, none, plain.written(row), many)


class PushesTest(GuaranteesCase):
    def test_pushes_lead_there_if_the_works_are_steered(self):
        draw = random.Random(167)
        for works, leaders in each_case(samples.drawn(6, 173)):
            for strengths in samples.drawn_strengths(works)[::2]:
                first, last = drawn_state(draw, len(works)), drawn_state(draw, len(works))
                many = soonest(works, strengths, leaders, first, last)
                if many is None:
                    self.assertIs(steers(works, strengths, leaders), False)
                    continue
                pushes = lead(works, strengths, leaders, first, last, many)
                self.assertEqual(after(works, strengths, leaders, first, pushes), last)
                pair = certify_lead(works, strengths, leaders, first, last, many)
                self.assertEqual((pair[1], accepts(*pair)), (pushes, True))

    def test_seen_days_tell_the_strengths(self):
        draw = random.Random(179)
        found = 0
        for works, leaders in each_case(samples.drawn(6, 181)):
            strengths = samples.drawn_strengths(works)[1]
            state, seen = drawn_state(draw, len(works)), []
            for _ in range(12):
                push = drawn_state(draw, len(leaders))
                behind = day(works, strengths, leaders, state, push)
                seen.append((state, push, behind))
                state = behind
            seen = tuple(seen)
            self.assertIs(fits(works, strengths, leaders, seen), True)
            table = strengths_seen(works, leaders, seen)
            self.assertIn(table, (None, tuple(plain.written(row) for row in strengths)))
            if table is not None:
                found += 1
                self.assertEqual(set(ties_seen(works, leaders, seen)), set(works.ties))
        self.assertGreater(found, 50)


class SetsTest(GuaranteesCase):
    def test_least_sets_of_offers_tried_on_a_board(self):
        draw = random.Random(191)
        for works, leaders in each_case(samples.drawn(4, 193)):
            offers = [("lead", part) for part in works.parts if part not in leaders]
            offers += [("cut" if pair in works.ties else "tie", *pair)
                       for pair in itertools.permutations(works.parts, 2)]
            offers = tuple(draw.sample(offers, min(len(offers), 5)))
            board = Board(works, leaders)

            def mends(held, chosen, told=offers):
                for at in chosen:
                    word, *names = told[at]
                    getattr(held, word)(*names)
                return held.sure()

            enough = [chosen for many in range(len(offers) + 1)
                      for chosen in itertools.combinations(range(len(offers)), many)
                      if board.tried(lambda held, places=chosen, ask=mends: ask(held, places))]
            self.assertEqual(mending(works, leaders, offers), plain.least(enough))
            self.assertEqual((board.works, board.leaders, board.changes), (works, leaders, 0))

    def test_doubts_over_all_their_ways(self):
        draw = random.Random(197)
        for works, leaders in each_case(samples.drawn(4, 199)):
            free = [pair for pair in itertools.permutations(works.parts, 2) if pair not in works.ties]
            doubts = tuple(draw.sample(free, min(len(free), 4)))
            ways = [Works(works.parts, works.ties + tuple(itertools.compress(doubts, bits)))
                    for bits in itertools.product((0, 1), repeat=len(doubts))]
            good = [way for way in ways if always_steers(way, leaders)]
            self.assertEqual(doubtful(works, leaders, doubts), len(good))
            sure = set(works.parts).intersection(*[known(way, leaders) for way in ways])
            self.assertEqual(set(surely_known(works, leaders, doubts)), sure)
            self.assertIs(telling_doubt(works, leaders, doubts) is None, len(good) in (0, len(ways)))


class SideBySideTest(GuaranteesCase):
    def test_console_board_book_and_certificates(self):
        for works, leaders in each_case(self.works):
            board, console, book = Board(works, leaders), Console(works, leaders), Book()
            book["w"] = works
            sure = always_steers(works, leaders)
            self.assertIs(board.sure(), sure)
            self.assertEqual(console.say("sure"), "yes" if sure else "no")
            self.assertEqual(console.say("known"), " ".join(board.known()) or "-")
            self.assertEqual(console.say("fewest"), str(fewest(works)))
            wishes = [(("always", "w", leaders), sure),
                      (("sometimes", "w", leaders), reached(works, leaders) == works.parts),
                      (("few", "w", len(leaders)), fewest(works) <= len(leaders)),
                      (("rounds", "w", leaders, rounds(works, leaders)), sure)]
            for wish, wanted in wishes:
                self.assertIs(self.takes(book, wish), wanted)
            claim, paper = certify_leaders(works, leaders)
            self.assertEqual((claim[0] == "always", accepts(claim, paper)), (sure, True))
            self.assertIs(accepts(("always",) + claim[1:], forces(works, leaders)), sure)
            self.assertIs(certify_fort(works, leaders) is None, sure)
            self.assertIs(certify_some(works, leaders) is None, not sometimes_steers(works, leaders))

    def takes(self, book, wish):
        """Whether the book takes this wish."""
        try:
            book.wish(wish)
        except Broken as error:
            self.assertEqual(error.index, len(book.wishes))
            return False
        return True


if __name__ == "__main__":
    unittest.main()

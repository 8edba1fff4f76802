"""Days: states and what leads to them, exactly."""

import itertools
import random
import unittest

import plain
import samples
from forcedsteer.days import after, day, lead, rank, soonest, steers
from forcedsteer.errors import InvalidNumber, InvalidPushes, NoAnswer, NoWay
from forcedsteer.some import good_strengths
from forcedsteer.works import Works
from samples import FORK, LINE, NAMES
from strange import Hostile, catch

ZERO = ((0, 0, 0, 0), (1, -1, 0, 0), (-1, 0, -1, 0), (0, 1, 1, 0))
HALF = ((1, 0, 0), (1, 2, 0), (0, 1, 3))
NONE = ((0, 1), (0, 1), (0, 1))
MOST = 10 ** 6


def noughts(many):
    return ((0, 1),) * many


def drawn_row(draw, many, most, bottoms):
    """So many fractions."""
    return plain.written(plain.Fraction(draw.randint(-most, most), draw.choice(bottoms)) for _ in range(many))


def each_case(each, seed):
    """Drawn works with strengths, leaders in any order, two states and some pushes."""
    draw = random.Random(seed)
    for works in samples.drawn(each, seed):
        for strengths in samples.drawn_strengths(works, seed):
            leaders = tuple(draw.sample(works.parts, draw.randint(0, len(works))))
            most, bottoms = draw.choice([(3, (1,)), (9, (1, 2, 3, 4)), (10 ** 20 - 1, (1, 7, 10 ** 20 - 3))])
            first, last = [drawn_row(draw, len(works), most, bottoms) for _ in range(2)]
            pushes = [drawn_row(draw, len(leaders), most, bottoms) for _ in range(draw.randint(0, 12))]
            yield (works, strengths, leaders), first, last, tuple(pushes)


class ExamplesTest(unittest.TestCase):
    def test_the_examples(self):
        fork, line, zero, half, none = FORK, LINE, ZERO, HALF, NONE
        told = [rank(fork, zero, ("a",)), steers(line, half, ("x",)), rank(line, half, ("z",)),
                day(line, half, ("x",), ((1, 2), (1, 1), (0, 1)), ((3, 1),)),
                soonest(line, half, ("x",), none, ((0, 1), (0, 1), (1, 1)))]
        self.assertEqual(told, [2, True, 1, ((7, 2), (5, 2), (1, 1)), 3])
        goal = ((1, 1), (5, 1), (2, 1))
        told = [after(line, half, ("x",), none, lead(line, half, ("x",), none, goal, 3)) == goal,
                soonest(line, half, ("z",), none, goal), soonest(line, half, ("x",), goal, goal)]
        self.assertEqual(told, [True, None, 0])


class DayTest(unittest.TestCase):
    def test_plain_days(self):
        duo = Works(("p", "q"), (("p", "q"),))
        strengths = ((2, 0), (3, 4))
        self.assertEqual(day(duo, strengths, (), ((5, 1), (7, 1)), ()), ((10, 1), (43, 1)))
        self.assertEqual(day(duo, strengths, ("q",), ((5, 1), (7, 1)), ((-43, 1),)), ((10, 1), (0, 1)))
        self.assertEqual(day(duo, strengths, ("q", "p"), ((1, 2), (-1, 3)), ((1, 6), (1, 5))), ((6, 5), (1, 3)))
        self.assertEqual(day(duo, strengths, ("p", "q"), ((1, 2), (-1, 3)), ((1, 6), (1, 5))), ((7, 6), (11, 30)))

    def test_the_order_of_the_leaders_is_that_of_the_push(self):
        for leaders in itertools.permutations(LINE.parts):
            push = tuple((LINE.parts.index(part) + 1, 1) for part in leaders)
            self.assertEqual(day(LINE, HALF, leaders, NONE, push), ((1, 1), (2, 1), (3, 1)))

    def test_fractions_come_without_a_common_divisor(self):
        works = Works(("a", "b"), (("a", "b"),))
        told = day(works, ((2, 0), (-2, 4)), ("b",), ((1, 2), (1, 4)), ((-1, 3),))
        self.assertEqual(told, ((1, 1), (-1, 3)))
        self.assertEqual(day(works, ((6, 0), (3, -3)), (), ((1, 9), (1, 9)), ()), ((2, 3), (0, 1)))
        self.assertEqual(day(works, ((0, 0), (1, 0)), (), ((-4, 9), (5, 7)), ()), ((0, 1), (-4, 9)))

    def test_one_part(self):
        works = Works(("a",))
        self.assertEqual(day(works, ((-3,),), (), ((2, 9),), ()), ((-2, 3),))
        self.assertEqual(day(works, ((0,),), ("a",), ((2, 9),), ((7, 8),)), ((7, 8),))

    def test_many_works(self):
        for (works, strengths, leaders), first, _, pushes in each_case(10, 5):
            for push in pushes[:2]:
                told = day(works, strengths, leaders, first, push)
                self.assertTrue(plain.are_fractions(told, len(works)))
                self.assertEqual(told, plain.day(works, strengths, leaders, first, push))
                self.assertEqual(after(works, strengths, leaders, first, (push,)), told)


class AfterTest(unittest.TestCase):
    def test_many_works(self):
        for (works, strengths, leaders), first, _, pushes in each_case(10, 6):
            told = after(works, strengths, leaders, first, pushes)
            self.assertTrue(plain.are_fractions(told, len(works)))
            self.assertEqual(told, plain.after(works, strengths, leaders, first, pushes))

    def test_no_pushes(self):
        for (works, strengths, leaders), first, _, _ in each_case(2, 7):
            self.assertEqual(after(works, strengths, leaders, first, ()), first)

    def test_no_leaders(self):
        self.assertEqual(after(LINE, HALF, (), ((1, 1), (0, 1), (0, 1)), ((), (), ())), ((1, 1), (7, 1), (6, 1)))
        self.assertEqual(catch(self, InvalidPushes, lambda: after(LINE, HALF, (), NONE, ((), ((0, 1),)))).index, 1)
        self.assertIsNone(catch(self, InvalidPushes, lambda: day(LINE, HALF, (), NONE, ((0, 1),))).index)

    def test_twelve_pushes_and_a_thirteenth(self):
        push = ((1, 3),)
        pushes = (push,) * 12
        wanted = plain.after(LINE, HALF, ("y",), NONE, pushes)
        self.assertEqual(after(LINE, HALF, ("y",), NONE, pushes), wanted)
        for more in ((push,), (push, push), (Hostile(),), ((),)):
            error = catch(self, InvalidPushes, lambda rest=more: after(LINE, HALF, ("y",), NONE, pushes + rest))
            self.assertEqual(error.index, 12)
        wrong = pushes[:4] + ((),) + pushes
        self.assertEqual(catch(self, InvalidPushes, lambda: after(LINE, HALF, ("y",), NONE, wrong)).index, 4)

    def test_the_greatest_numbers(self):
        works = samples.all_tied(8)
        state = plain.written([10 ** 20 - 1 - at for at in range(8)])
        for strength in (MOST, -MOST):
            strengths = ((strength,) * 8,) * 8
            told = after(works, strengths, NAMES[::-1], state, (state,) * 12)
            self.assertEqual(told, plain.after(works, strengths, NAMES[::-1], state, (state,) * 12))
            # What the package has returned may be passed on, however many digits it has.
            again = after(works, strengths, NAMES, told, (told,) * 12)
            self.assertGreater(abs(again[0][0]), 10 ** 180)
            self.assertEqual(again, plain.after(works, strengths, NAMES, told, (told,) * 12))
            pushes = lead(works, strengths, NAMES[:7], told, again, 2)
            self.assertEqual(after(works, strengths, NAMES[:7], told, pushes), again)


class RankTest(unittest.TestCase):
    def test_plain_ranks(self):
        self.assertEqual([rank(LINE, HALF, leaders) for leaders in ((), ("x",), ("y",), ("z",), ("z", "y"))],
                         [0, 3, 2, 1, 2])
        self.assertEqual([rank(FORK, ZERO, (part,)) for part in FORK.parts], [2, 2, 2, 1])
        works = Works(("a",))
        self.assertEqual([rank(works, ((number,),), ("a",)) for number in (0, 1, -MOST)], [1, 1, 1])
        self.assertEqual([rank(works, ((number,),), ()) for number in (0, 1, -MOST)], [0, 0, 0])

    def test_lines_with_all_lengths(self):
        for many in range(1, 9):
            works = samples.line(many)
            strengths = good_strengths(works, NAMES[:1])
            for at in range(many):
                self.assertEqual(rank(works, strengths, NAMES[at:at + 1]), many - at)

    def test_many_works(self):
        for (works, strengths, leaders), _, _, _ in each_case(12, 8):
            told = rank(works, strengths, leaders)
            self.assertEqual((told, type(told)), (plain.rank(works, strengths, leaders), int))
            self.assertIs(steers(works, strengths, leaders), told == len(works))
            self.assertEqual(rank(works, strengths, leaders[::-1]), told)

    def test_no_leaders_and_all_leaders(self):
        for works in samples.shaped():
            strengths = samples.drawn_strengths(works)[-1]
            self.assertEqual([rank(works, strengths, lot) for lot in ((), works.parts)], [0, len(works)])
            self.assertEqual([steers(works, strengths, lot) for lot in ((), works.parts[::-1])], [False, True])


class LeadTest(unittest.TestCase):
    def check(self, case, first, last, many):
        """The pushes lead there, or there is no way."""
        works, _, leaders = case
        if not plain.can_lead(*case, first, last, many):
            error = catch(self, NoWay, lambda: lead(*case, first, last, many))
            self.assertIsInstance(error, NoAnswer)
            return False
        pushes = lead(*case, first, last, many)
        self.assertEqual((type(pushes), len(pushes)), (tuple, many))
        for push in pushes:
            self.assertTrue(plain.are_fractions(push, len(leaders)))
        self.assertEqual(after(*case, first, pushes), last)
        self.assertEqual(plain.after(*case, first, pushes), last)
        self.assertEqual(lead(*case, first, last, many), pushes)
        return True

    def test_many_works(self):
        ways = [0, 0]
        for case, first, last, _ in each_case(4, 9):
            for many in (0, 1, 2, len(case[0]), 12):
                ways[self.check(case, first, last, many)] += 1
        self.assertGreater(min(ways), 100)

    def test_to_states_that_pushes_have_led_to(self):
        for case, first, _, pushes in each_case(6, 10):
            last = plain.after(*case, first, pushes)
            self.assertTrue(self.check(case, first, last, len(pushes)))
            self.assertIsNotNone(soonest(*case, first, last) if len(pushes) <= len(case[0]) else 0)

    def test_no_days(self):
        for case, first, last, _ in each_case(2, 11):
            self.assertEqual(lead(*case, first, first, 0), ())
            if first != last:
                catch(self, NoWay, lambda one=case, two=(first, last): lead(*one, *two, 0))

    def test_no_leaders(self):
        last = ((1, 1), (1, 1), (0, 1))
        first = ((1, 1), (0, 1), (0, 1))
        self.assertEqual(lead(LINE, HALF, (), first, last, 1), ((),))
        self.assertEqual(lead(LINE, HALF, (), NONE, NONE, 12), ((),) * 12)
        self.assertEqual(soonest(LINE, HALF, (), first, last), 1)
        for many in (0, 2, 3, 12):
            catch(self, NoWay, lambda days=many: lead(LINE, HALF, (), first, last, days))

    def test_all_leaders_in_any_order(self):
        first, last = ((1, 2), (-3, 1), (0, 1)), ((7, 3), (0, 1), (1, 9))
        for leaders in itertools.permutations(LINE.parts):
            for many in range(1, 13):
                self.assertTrue(self.check((LINE, HALF, leaders), first, last, many))
            self.assertEqual(soonest(LINE, HALF, leaders, first, last), 1)

    def test_wrong_days_ahead_of_no_way(self):
        goal = ((0, 1), (0, 1), (1, 1))
        catch(self, NoWay, lambda: lead(LINE, HALF, ("x",), NONE, goal, 2))
        for many in (-1, 13, True, False, None, "2", (2, 1), 10 ** 79, 2 ** 64 + 2):
            error = catch(self, InvalidNumber, lambda days=many: lead(LINE, HALF, ("x",), NONE, goal, days))
            self.assertIs(error.given, many)


class SoonestTest(unittest.TestCase):
    def test_many_works(self):
        for case, first, last, _ in each_case(4, 12):
            able = [many for many in range(len(case[0]) + 1) if plain.can_lead(*case, first, last, many)]
            told = soonest(*case, first, last)
            self.assertEqual(told, able[0] if able else None)
            self.assertNotIsInstance(told, bool)
            if steers(*case):
                self.assertIsNotNone(told)
                lead(*case, first, last, len(case[0]))

    def test_steered_works_in_as_many_days_as_there_are_parts(self):
        for many in range(1, 9):
            works = samples.line(many)
            strengths = good_strengths(works, NAMES[:1])
            goal = noughts(many - 1) + ((-3, 7),)
            self.assertEqual(soonest(works, strengths, NAMES[:1], noughts(many), goal), many)
            catch(self, NoWay, lambda one=works, two=strengths, three=goal:
                  lead(one, two, NAMES[:1], noughts(len(one)), three, len(one) - 1))

    def test_more_days_may_not_do_where_fewer_do(self):
        # Without pushes the state goes through goal and leaves it.
        first, goal = ((1, 1), (0, 1), (0, 1)), ((1, 1), (3, 1), (1, 1))
        self.assertEqual(soonest(LINE, HALF, ("z",), first, goal), 2)
        catch(self, NoWay, lambda: lead(LINE, HALF, ("z",), first, goal, 3))
        # A way that takes more days than there are parts is not told.
        far = after(LINE, HALF, (), first, ((),) * 4)
        self.assertIsNone(soonest(LINE, HALF, (), first, far))
        self.assertEqual(lead(LINE, HALF, (), first, far, 4), ((),) * 4)

    def test_rank_tells_whether_each_state_can_be_reached(self):
        for (works, strengths, leaders), _, _, _ in each_case(3, 13):
            many = len(works)
            ways = [soonest(works, strengths, leaders, noughts(many),
                            plain.written(int(other == part) for other in works.parts)) for part in works.parts]
            self.assertIs(steers(works, strengths, leaders), None not in ways)


if __name__ == "__main__":
    unittest.main()

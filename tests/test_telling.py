"""Telling: which strengths and ties fit days that were seen."""

import itertools
import random
import unittest

import plain
import samples
from forcedsteer.days import after, day
from forcedsteer.errors import InvalidSeen
from forcedsteer.telling import fits, strengths_seen, ties_seen
from forcedsteer.works import Works
from samples import FORK, LINE, NAMES
from strange import catch

DUO = Works(("p", "q"), (("p", "q"),))
DAYS = ((((1, 1), (0, 1)), ((0, 1),), ((2, 1), (3, 1))), (((0, 1), (1, 1)), ((1, 1),), ((1, 1), (4, 1))))
HALF = ((1, 0, 0), (1, 2, 0), (0, 1, 3))


def drawn_row(draw, many, most):
    """So many fractions."""
    return plain.written(plain.Fraction(draw.randint(-most, most), draw.choice((1, 1, 2, 5, 9))) for _ in range(many))


def in_pairs(strengths):
    """Strengths as a table of fractions."""
    return tuple(plain.written(row) for row in strengths)


def seen_with(draw, works, table, leaders, many):
    """So many days that are so with this table of integers or pairs."""
    most = draw.choice((1, 3, 10 ** 20))
    days = []
    for _ in range(many):
        before, push = drawn_row(draw, len(works), most), drawn_row(draw, len(leaders), most)
        days.append((before, push, plain.day(works, table, leaders, before, push)))
    return tuple(days)


class ExamplesTest(unittest.TestCase):
    def test_the_examples(self):
        duo, days = DUO, DAYS
        told = [fits(duo, ((2, 0), (3, 4)), ("p",), days), strengths_seen(duo, ("p",), days),
                ties_seen(duo, ("p",), days), strengths_seen(duo, ("p",), days[:1])]
        self.assertEqual(told, [True, (((2, 1), (0, 1)), ((3, 1), (4, 1))), (("p", "q"),), None])


class FitsTest(unittest.TestCase):
    def test_days_that_are_so_and_bent_ones(self):
        draw = random.Random(41)
        for works in samples.drawn(6, 41):
            for strengths in samples.drawn_strengths(works, 41):
                leaders = tuple(draw.sample(works.parts, draw.randint(0, len(works))))
                seen = seen_with(draw, works, strengths, leaders, draw.randint(1, 12))
                self.assertIs(fits(works, strengths, leaders, seen), True)
                self.assertIs(fits(works=works, strengths=strengths, leaders=leaders, seen=seen), True)
                at, place = draw.randrange(len(seen)), draw.randrange(len(works))
                before, push, behind = seen[at]
                top, bottom = behind[place]
                bent = behind[:place] + ((top + bottom, bottom),) + behind[place + 1:]
                wrong = seen[:at] + ((before, push, bent),) + seen[at + 1:]
                self.assertIs(fits(works, strengths, leaders, wrong), False)

    def test_each_day_counts(self):
        strengths = ((2, 0), (3, 4))
        for at, other in itertools.product(range(2), range(2)):
            self.assertIs(fits(DUO, strengths, ("p",), (DAYS[at], DAYS[other])), True)
        wrong = (((0, 1), (1, 1)), ((1, 1),), ((1, 1), (3, 1)))
        for at in range(12):
            seen = (DAYS * 6)[:at] + (wrong,) + (DAYS * 6)[:11 - at]
            self.assertIs(fits(DUO, strengths, ("p",), seen), False)

    def test_the_leaders_order_is_that_of_the_push(self):
        for leaders in itertools.permutations(LINE.parts):
            push = tuple((LINE.parts.index(part), 1) for part in leaders)
            behind = ((0, 1), (1, 1), (2, 1))
            self.assertIs(fits(LINE, HALF, leaders, ((((0, 1),) * 3, push, behind),)), True)
            self.assertIs(fits(LINE, HALF, leaders, ((((0, 1),) * 3, push[::-1], behind),)), push == push[::-1])

    def test_days_one_behind_the_other(self):
        push, state, seen = ((1, 3),), ((1, 1), (0, 1), (-1, 2)), []
        for _ in range(12):
            behind = day(LINE, HALF, ("y",), state, push)
            seen.append((state, push, behind))
            state = behind
        self.assertIs(fits(LINE, HALF, ("y",), tuple(seen)), True)
        self.assertEqual(state, after(LINE, HALF, ("y",), seen[0][0], (push,) * 12))
        self.assertEqual(strengths_seen(LINE, ("y",), tuple(seen)), in_pairs(HALF))
        self.assertEqual(ties_seen(LINE, ("y",), tuple(seen)), LINE.ties)


class StrengthsSeenTest(unittest.TestCase):
    def check(self, works, leaders, seen):
        """The table fits and there is no other one; or there is none, as the words say."""
        told = strengths_seen(works, leaders, seen)
        self.assertEqual(strengths_seen(works=works, leaders=leaders, seen=seen), told)
        telling, some = plain.table_of(works, leaders, seen)
        self.assertIs(told is not None, telling and some)
        ties = ties_seen(works, leaders, seen)
        if told is None:
            self.assertIsNone(ties)
            return None
        self.assertEqual((type(told), len(told)), (tuple, len(works)))
        for row in told:
            self.assertTrue(plain.are_fractions(row, len(works)))
        for before, push, behind in seen:
            self.assertEqual(plain.day(works, told, leaders, before, push), behind)
        wanted = [(one, other) for at, one in enumerate(works.parts) for place, other in enumerate(works.parts)
                  if one != other and told[place][at] != (0, 1)]
        self.assertEqual(ties, tuple(wanted))
        return told

    def test_days_with_strengths(self):
        draw = random.Random(43)
        found = 0
        for works in samples.drawn(6, 43):
            for strengths in samples.drawn_strengths(works, 43):
                leaders = tuple(draw.sample(works.parts, draw.randint(0, len(works))))
                seen = seen_with(draw, works, strengths, leaders, draw.randint(max(1, len(works) - 1), 12))
                told = self.check(works, leaders, seen)
                if told is not None:
                    found += 1
                    self.assertEqual(told, in_pairs(strengths))
                    self.assertEqual(set(ties_seen(works, leaders, seen)), set(works.ties))
        self.assertGreater(found, 60)

    def test_tables_that_are_no_strengths_of_the_works(self):
        draw = random.Random(47)
        found = 0
        for works in samples.drawn(5, 47):
            for _ in range(3):
                table = tuple(drawn_row(draw, len(works), draw.choice((1, 10 ** 7))) for _ in works.parts)
                leaders = tuple(draw.sample(works.parts, draw.randint(0, len(works))))
                seen = seen_with(draw, works, table, leaders, 12)
                told = self.check(works, leaders, seen)
                found += told is not None
                self.assertIn(told, (table, None))
        self.assertGreater(found, 60)

    def test_days_against_one_another(self):
        before, push, behind = DAYS[1]
        for bent in (((1, 1), (5, 1)), ((2, 1), (4, 1)), ((1, 2), (4, 1))):
            seen = (*DAYS, (before, push, bent))
            self.assertIsNone(self.check(DUO, ("p",), seen))
            self.assertIsNone(self.check(DUO, ("p",), seen[::-1]))
            self.assertIsNone(self.check(DUO, ("p",), ((before, push, bent), DAYS[1])))
        self.assertIsNotNone(self.check(DUO, ("p",), DAYS * 6))

    def test_bent_days(self):
        draw = random.Random(53)
        for works in samples.drawn(5, 53):
            strengths = samples.drawn_strengths(works, 53)[1]
            seen = seen_with(draw, works, strengths, works.parts[:1], 12)
            before, push, behind = seen[5]
            bent = ((behind[0][0] + behind[0][1], behind[0][1]),) + behind[1:]
            self.assertIsNone(self.check(works, works.parts[:1], seen[:5] + ((before, push, bent),) + seen[6:]))

    def test_states_that_are_multiples_of_others(self):
        table = ((2, 0), (3, 4))
        for factor in ((0, 1), (1, 1), (-7, 3), (10 ** 20, 1)):
            one = ((1, 2), (3, 5))
            other = plain.written(plain.Fraction(*factor) * value for value in plain.numbers(one))
            days = tuple((state, ((1, 1),), plain.day(DUO, table, ("p",), state, ((1, 1),))) for state in (one, other))
            self.assertIsNone(self.check(DUO, ("p",), days))
            told = self.check(DUO, ("p",), days + DAYS[:1])
            self.assertEqual(told, in_pairs(table))

    def test_too_few_days(self):
        for many in range(1, 9):
            works = samples.line(many)
            strengths = samples.drawn_strengths(works)[0]
            units = [plain.written(int(at == place) for at in range(many)) for place in range(many)]
            seen = tuple((unit, (), plain.day(works, strengths, (), unit, ())) for unit in units)
            self.assertEqual(self.check(works, (), seen), in_pairs(strengths))
            self.assertEqual(self.check(works, (), seen[::-1]), in_pairs(strengths))
            for at in range(many):
                rest = seen[:at] + seen[at + 1:]
                if rest:
                    self.assertIsNone(self.check(works, (), rest))
                    self.assertIsNone(self.check(works, (), rest + rest[:1]))

    def test_fractions_in_the_table(self):
        seen = ((((2, 1), (0, 1)), (), ((1, 1), (0, 1))), (((0, 1), (3, 1)), (), ((1, 1), (-2, 1))))
        self.assertEqual(self.check(DUO, (), seen), (((1, 2), (1, 3)), ((0, 1), (-2, 3))))
        self.assertEqual(ties_seen(DUO, (), seen), (("q", "p"),))

    def test_no_leaders_and_all_leaders(self):
        draw = random.Random(59)
        for works in samples.shaped():
            strengths = samples.drawn_strengths(works)[2]
            for leaders in ((), works.parts, works.parts[::-1]):
                self.check(works, leaders, seen_with(draw, works, strengths, leaders, 9))


class TiesSeenTest(unittest.TestCase):
    def test_ties_that_the_works_do_not_have(self):
        works = samples.untied(3)
        units = [plain.written(int(at == place) for at in range(3)) for place in range(3)]
        table = ((5, 0, 2), (1, 0, 0), (0, 7, 9))
        seen = tuple((unit, (), plain.day(works, table, (), unit, ())) for unit in units)
        one, two, three = NAMES[:3]
        self.assertEqual(ties_seen(works, (), seen), ((one, two), (two, three), (three, one)))
        self.assertEqual(ties_seen(samples.all_tied(3), (), seen), ((one, two), (two, three), (three, one)))

    def test_no_ties_at_all(self):
        works = samples.all_tied(2)
        seen = ((((1, 1), (0, 1)), (), ((4, 1), (0, 1))), (((0, 1), (1, 1)), (), ((0, 1), (0, 1))))
        self.assertEqual(ties_seen(works, (), seen), ())
        one = Works(("a",))
        self.assertEqual(ties_seen(one, (), ((((2, 1),), (), ((3, 1),)),)), ())
        self.assertEqual(strengths_seen(one, (), ((((2, 1),), (), ((3, 1),)),)), (((3, 2),),))
        self.assertIsNone(ties_seen(one, (), ((((0, 1),), (), ((0, 1),)),)))

    def test_ordered_by_the_places(self):
        for works in (samples.all_tied(4), samples.turned(samples.all_tied(4)), samples.turned(FORK)):
            strengths = samples.drawn_strengths(works)[2]
            units = [plain.written(int(at == place) for at in range(4)) for place in range(4)]
            seen = tuple((unit, (), plain.day(works, strengths, (), unit, ())) for unit in units)
            wanted = [pair for pair in itertools.permutations(works.parts, 2) if pair in works.ties]
            self.assertEqual(ties_seen(works, (), seen), tuple(wanted))


class ManyDaysTest(unittest.TestCase):
    def test_twelve_days_and_a_thirteenth(self):
        calls = [lambda seen: fits(DUO, ((2, 0), (3, 4)), ("p",), seen), lambda seen: strengths_seen(DUO, ("p",), seen),
                 lambda seen: ties_seen(DUO, ("p",), seen)]
        for call in calls:
            self.assertIsNotNone(call(DAYS * 6))
            for more in (DAYS[:1], DAYS, (None,)):
                error = catch(self, InvalidSeen, lambda ask=call, rest=more: ask(DAYS * 6 + rest))
                self.assertEqual(error.index, 12)
            self.assertIsNone(catch(self, InvalidSeen, lambda ask=call: ask(())).index)
            self.assertEqual(catch(self, InvalidSeen, lambda ask=call: ask(DAYS + (DAYS,) + DAYS * 6)).index, 2)

    def test_a_push_for_other_leaders(self):
        for leaders, at in ((("p",), None), (("q",), None), ((), 0), (("p", "q"), 0)):
            if at is None:
                strengths_seen(DUO, leaders, DAYS)
            else:
                error = catch(self, InvalidSeen, lambda lot=leaders: strengths_seen(DUO, lot, DAYS))
                self.assertEqual(error.index, at)

    def test_what_was_returned_may_be_passed_on(self):
        works = samples.all_tied(8)
        strengths = tuple(tuple(10 ** 6 - at ** (place + 1) % 999983 for place in range(8)) for at in range(8))
        state, seen = plain.written(range(1, 9)), []
        for at in range(12):
            push = plain.written([plain.Fraction(at, 10 ** 20 - 1), plain.Fraction(at * at - 1, 3)])
            behind = day(works, strengths, NAMES[6:], state, push)
            seen.append((state, push, behind))
            state = behind
        self.assertGreater(state[0][0], 10 ** 80)
        self.assertIs(fits(works, strengths, NAMES[6:], tuple(seen)), True)
        self.assertEqual(strengths_seen(works, NAMES[6:], tuple(seen)), in_pairs(strengths))


if __name__ == "__main__":
    unittest.main()

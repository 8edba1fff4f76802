"""Works that are right: how they are made, and what they tell."""

import itertools
import unittest
from unittest import mock

from forcedsteer.errors import UnknownName
from forcedsteer.works import Works
from strange import catch, strange_values

NAMES = ("a", "bb", "c3", "dddddddd", "e", "f0123456", "g9", "h")
ALL_TIES = tuple(itertools.permutations(NAMES, 2))
FORK = "a b c d\na > b\na > c\nb > d\nc > d"


class MakingTest(unittest.TestCase):
    def test_by_position_by_name_and_without_ties(self):
        parts, ties = ("a", "b"), (("b", "a"),)
        for works in (Works(parts, ties), Works(parts=parts, ties=ties), Works(ties=ties, parts=parts),
                      Works(parts, ties=ties)):
            self.assertIs(works.parts, parts)
            self.assertIs(works.ties, ties)
        for works in (Works(parts), Works(parts=parts), Works(parts, ()), Works(parts, ties=())):
            self.assertIs(works.parts, parts)
            self.assertEqual(works.ties, ())

    def test_one_part_to_eight(self):
        for many in range(1, 9):
            works = Works(NAMES[:many])
            self.assertEqual((works.parts, works.ties, len(works)), (NAMES[:many], (), many))
            self.assertEqual(str(works), " ".join(NAMES[:many]))

    def test_no_ties_to_all_fifty_six(self):
        self.assertEqual(len(ALL_TIES), 56)
        for many in range(57):
            works = Works(NAMES, ALL_TIES[:many])
            self.assertEqual((works.parts, works.ties, len(works)), (NAMES, ALL_TIES[:many], 8))
        self.assertIs(Works(NAMES, ALL_TIES).ties, ALL_TIES)

    def test_ties_stay_in_their_order(self):
        for ties in itertools.permutations((("a", "b"), ("b", "a"), ("a", "c"))):
            self.assertEqual(Works(("a", "b", "c"), ties).ties, ties)
            self.assertEqual(Works(("c", "b", "a"), ties).parts, ("c", "b", "a"))

    def test_a_tie_the_other_way_round_is_another_one(self):
        works = Works(("a", "b"), (("a", "b"), ("b", "a")))
        self.assertEqual((works.pushes("a"), works.pushes("b")), (("b",), ("a",)))
        one_way = Works(("a", "b"), (("a", "b"),))
        self.assertEqual((one_way.pushes("a"), one_way.pushes("b")), (("b",), ()))

    def test_names_of_every_sign(self):
        for name in ("z", "a0", "az09az09", "abcdefgh", "a1234567", "aaaaaaaa"):
            self.assertEqual(Works((name,)).parts, (name,))


class TellingTest(unittest.TestCase):
    def setUp(self):
        self.fork = Works.read(FORK)

    def test_pushes_by_position_and_by_name(self):
        told = {"a": ("b", "c"), "b": ("d",), "c": ("d",), "d": ()}
        for part, pushed in told.items():
            self.assertEqual(self.fork.pushes(part), pushed)
            self.assertEqual(self.fork.pushes(part=part), pushed)
            self.assertIs(type(self.fork.pushes(part)), tuple)

    def test_pushes_are_in_the_order_of_the_parts(self):
        for ties in itertools.permutations((("b", "c"), ("b", "a"), ("b", "d"), ("a", "b"))):
            self.assertEqual(Works(("d", "a", "b", "c"), ties).pushes("b"), ("d", "a", "c"))

    def test_pushes_of_works_with_all_ties(self):
        works = Works(NAMES, ALL_TIES[::-1])
        for part in NAMES:
            self.assertEqual(works.pushes(part), tuple(name for name in NAMES if name != part))

    def test_pushes_of_no_part(self):
        unknown = ["", "e", "A", "aa", "ab", "a b", " a", "a ", "a\n", "a > b", FORK, ("a",), ["a"]]
        for at, value in enumerate([*unknown, *strange_values(), self.fork]):
            with self.subTest(at=at):
                error = catch(self, UnknownName, lambda: self.fork.pushes(value))
                self.assertIs(error.given, value)
                error = catch(self, UnknownName, lambda: self.fork.pushes(part=value))
                self.assertIs(error.given, value)

    def test_len_and_text(self):
        self.assertEqual([len(self.fork), str(self.fork), f"{self.fork}"], [4, FORK, FORK])
        self.assertEqual(str(Works(("a", "b"), (("b", "a"), ("a", "b")))), "a b\nb > a\na > b")
        self.assertEqual(str(Works(("b", "a"), (("b", "a"),))), "b a\nb > a")

    def test_every_object_is_true(self):
        for works in (self.fork, Works(("a",)), Works(NAMES, ALL_TIES)):
            self.assertTrue(works)
            self.assertIs(bool(works), True)


class EqualityTest(unittest.TestCase):
    def check(self, one, other, equal):
        self.assertIs(one == other, equal)
        self.assertIs(one != other, not equal)

    def test_equal_texts(self):
        one, other = Works(("a", "b"), (("a", "b"),)), Works.read("a b\na > b")
        for left, right in ((one, one), (one, other), (other, one)):
            self.check(left, right, True)
        self.check(Works(("a",)), Works(parts=("a",), ties=()), True)

    def test_other_texts(self):
        texts = ["a", "b", "a b", "b a", "ab", "a b\na > b", "a b\nb > a", "b a\na > b",
                 "a b\na > b\nb > a", "a b\nb > a\na > b", "a b c\na > b", FORK]
        for one, other in itertools.product(texts, repeat=2):
            self.check(Works.read(one), Works.read(other), one == other)

    def test_values_of_other_classes(self):
        works = Works.read("a b\na > b")
        others = [str(works), works.parts, (works.parts, works.ties), [works], (works,), Works]
        for other in [*others, *strange_values(), mock.ANY]:
            self.check(works, other, False)

    def test_operands_of_other_classes_on_the_left(self):
        works = Works(("a",))
        for other in ("a", ("a",), (("a",), ()), None, True, 1, [], {}, object()):
            self.check(other, works, False)


class StayingTest(unittest.TestCase):
    def test_works_stay_as_they_were_made(self):
        works = Works.read(FORK)
        before = (works.parts, works.ties)
        calls = (lambda: works.pushes("a"), lambda: works.pushes("z"), lambda: str(works), lambda: len(works),
                 lambda: works == 3, lambda: works.read("x"), lambda: works.read("x y\n"))
        for call in calls:
            try:
                call()
            except (ValueError, LookupError):
                pass
            self.assertEqual((works.parts, works.ties, str(works)), (*before, FORK))

    def test_parts_and_ties_cannot_be_assigned(self):
        works = Works.read(FORK)
        for name in ("parts", "ties"):
            with self.assertRaises(AttributeError):
                setattr(works, name, ())
        self.assertEqual(str(works), FORK)

    def test_equal_calls_return_equal_results(self):
        works = Works.read(FORK)
        for call in (lambda: Works(("a", "b"), (("a", "b"),)), lambda: Works.read(FORK), lambda: works.pushes("a"),
                     lambda: works.parts, lambda: works.ties, lambda: len(works), lambda: str(works)):
            self.assertEqual(call(), call())

    def test_other_works_change_nothing(self):
        works = Works.read("a b\na > b")
        Works(("a", "b", "c"), (("a", "c"),))
        Works.read("x y\nx > y")
        self.assertEqual((works.parts, works.ties, works.pushes("a")), (("a", "b"), (("a", "b"),), ("b",)))


class InterfaceTest(unittest.TestCase):
    def test_the_class_itself_defines_what_is_listed(self):
        self.assertEqual(Works.__module__, "forcedsteer.works")
        for name in ("__init__", "read", "parts", "ties", "pushes", "__len__", "__str__", "__eq__"):
            self.assertIn(name, vars(Works))
        self.assertIsInstance(vars(Works)["read"], classmethod)
        for name in ("parts", "ties"):
            self.assertIsInstance(vars(Works)[name], property)

    def test_the_examples(self):
        fork = Works.read("a b c d\na > b\na > c\nb > d\nc > d")
        line = Works(("x", "y", "z"), (("x", "y"), ("y", "z")))
        told = [fork.parts, fork.ties[3], fork.pushes("a"), len(fork), str(line), Works.read(str(fork)) == fork]
        wanted = [("a", "b", "c", "d"), ("c", "d"), ("b", "c"), 4, "x y z\nx > y\ny > z", True]
        self.assertEqual(told, wanted)


if __name__ == "__main__":
    unittest.main()

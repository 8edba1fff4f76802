"""Wrong parts and ties: which error is raised, and with which index."""

import itertools
import unittest

from forcedsteer.errors import InvalidParts, InvalidTies
from forcedsteer.works import Works
from strange import Hostile, catch, nested, strange_values

NAMES = ("a", "bb", "c3", "dddddddd", "e", "f0123456", "g9", "h")
TIES = (("a", "b"), ("b", "a"), ("c", "a"), ("b", "c"))
NO_NAMES = ["", "A", "aB", "1", "1a", "a_", "_a", "a b", " a", "a ", "a\n", "\na", "\n", "a-", "a.", "a > b",
            "abcdefghi", "a12345678", "`", "{", "a/", "a:", "a@", "a["]


def put(row, at, value):
    """This tuple with another value at a place."""
    return row[:at] + (value,) + row[at + 1:]


class WrongTest(unittest.TestCase):
    def parts_refused(self, parts, index, ties=()):
        for call in (lambda: Works(parts, ties), lambda: Works(parts=parts, ties=ties),
                     lambda: Works(ties=ties, parts=parts)):
            self.check_index(catch(self, InvalidParts, call), index)

    def ties_refused(self, ties, index, parts=("a", "b", "c")):
        for call in (lambda: Works(parts, ties), lambda: Works(parts=parts, ties=ties),
                     lambda: Works(parts, ties=ties)):
            self.check_index(catch(self, InvalidTies, call), index)

    def check_index(self, error, index):
        self.assertEqual(error.index, index)
        self.assertIs(type(error.index), type(index))


class WrongPartsTest(WrongTest):
    def test_no_tuple(self):
        others = ["a", "ab", "a b", ["a"], ["a", "b"], {"a": 1}, {"a"}, Works(("a",))]
        for at, value in enumerate([*others, *strange_values()]):
            if not isinstance(value, tuple):
                with self.subTest(at=at):
                    self.parts_refused(value, None)

    def test_no_parts(self):
        self.parts_refused((), None)
        self.parts_refused((), None, (("a", "b"),))

    def test_no_name_at_each_place(self):
        for many in (1, 2, 5, 8):
            for place in range(many):
                for at, value in enumerate([*NO_NAMES, ("a",), ["a"], *strange_values()]):
                    with self.subTest(many=many, place=place, at=at):
                        self.parts_refused(put(NAMES[:many], place, value), place)

    def test_the_same_name_again(self):
        for one, other in itertools.combinations(range(8), 2):
            self.parts_refused(put(NAMES, other, NAMES[one]), other)
            self.parts_refused(put(NAMES, other, "".join(list(NAMES[one]))), other)

    def test_several_wrong_elements(self):
        for one, other in itertools.combinations(range(8), 2):
            for wrong, again in itertools.product(("", 3, None, Hostile(), "A"), repeat=2):
                self.parts_refused(put(put(NAMES, one, wrong), other, again), one)
        self.parts_refused(("a", "a", "a"), 1)
        self.parts_refused(("a", "b", "a", ""), 2)
        self.parts_refused(("", "b", "b"), 0)
        self.parts_refused((1, 1), 0)

    def test_the_ninth_part(self):
        for more in (("i",), ("i", "j"), ("i", "i"), ("",), ("a",), (Hostile(),), (None, "i"), ("i",) * 1000):
            self.parts_refused(NAMES + more, 8)
        for place in range(8):
            self.parts_refused(put(NAMES, place, "A") + ("i",), place)
            self.parts_refused(put(NAMES, place, Hostile()) + ("i", "j"), place)
        self.parts_refused(put(NAMES, 7, "a") + ("i",), 7)

    def test_parts_ahead_of_ties(self):
        for ties in (None, [], (3,), (("a", "a"),), (("a", "z"),), Hostile(), (Hostile(),)):
            self.parts_refused(None, None, ties)
            self.parts_refused((), None, ties)
            self.parts_refused(("a", "b", "B"), 2, ties)
            self.parts_refused(NAMES + ("i",), 8, ties)


class WrongTiesTest(WrongTest):
    def test_no_tuple(self):
        others = ["", "a > b", [], [("a", "b")], {("a", "b"): 1}, {("a", "b")}, Works(("a",)), iter((("a", "b"),))]
        for at, value in enumerate([*others, *strange_values()]):
            if not isinstance(value, tuple):
                with self.subTest(at=at):
                    self.ties_refused(value, None)

    def test_no_pair_of_parts_at_each_place(self):
        wrong = ["ab", "a > b", ("a",), ("a", "b", "c"), ["a", "c"], ("a", "a"), ("c", "c"), ("a", "d"), ("d", "a"),
                 ("d", "e"), ("a", ""), ("", "a"), ("A", "b"), ("a", "b "), (("a", "c"),), (("a", "c"), "b"),
                 ("a", ["c"]), (["a"], "c"), ("d", "d"), ("", ""), (None, None), ("ab", "c"), ("a", b"c"), {"a", "c"}]
        for strange in strange_values():
            wrong += [strange, ("a", strange), (strange, "a"), (strange, strange)]
        for place in range(4):
            for at, value in enumerate(wrong):
                with self.subTest(place=place, at=at):
                    self.ties_refused(put(TIES, place, value), place)

    def test_the_same_tie_again(self):
        for one, other in itertools.combinations(range(4), 2):
            self.ties_refused(put(TIES, other, TIES[one]), other)
            self.ties_refused(put(TIES, other, tuple(list(TIES[one]))), other)
        every = tuple(itertools.permutations(NAMES, 2))
        for tie in every:
            self.ties_refused(every + (tie,), 56, NAMES)

    def test_a_tie_the_other_way_round_is_another_one(self):
        self.assertEqual(Works(("a", "b"), (("a", "b"), ("b", "a"))).ties, (("a", "b"), ("b", "a")))
        self.ties_refused((("a", "b"), ("b", "a"), ("a", "b")), 2)
        self.ties_refused((("a", "b"), ("b", "a"), ("b", "a")), 2)

    def test_several_wrong_elements(self):
        for one, other in itertools.combinations(range(4), 2):
            for wrong, again in itertools.product((("a", "a"), ("a", "z"), None, "ab", (Hostile(), "a")), repeat=2):
                self.ties_refused(put(put(TIES, one, wrong), other, again), one)
        self.ties_refused((("a", "b"), ("a", "b"), ("a", "a")), 1)
        self.ties_refused((("a", "a"), ("a", "b"), ("a", "b")), 0)
        self.ties_refused((nested(100), nested(100)), 0)

    def test_one_part_has_no_ties(self):
        for tie in (("a", "a"), ("a", "b"), ("b", "a"), ("a",), ()):
            self.ties_refused((tie,), 0, ("a",))
        self.assertEqual(Works(("a",), ()).ties, ())

    def test_the_example(self):
        self.check_index(catch(self, InvalidTies, lambda: Works(("a", "b"), (("a", "b"), ("b", "b")))), 1)

    def test_arguments_are_not_changed(self):
        parts, ties = ["a", "b"], [["a", "b"]]
        self.parts_refused(parts, None)
        self.ties_refused(ties, None)
        self.ties_refused((ties[0],), 0)
        self.assertEqual((parts, ties), (["a", "b"], [["a", "b"]]))


if __name__ == "__main__":
    unittest.main()

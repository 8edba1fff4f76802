"""The texts of works: which strings are read, and what is refused."""

import itertools
import re
import string
import unittest

from forcedsteer.errors import InvalidText
from forcedsteer.works import Works
from strange import catch, strange_values

FORK = "a b c d\na > b\na > c\nb > d\nc > d"
FULL_NAMES = tuple("abcdefgh")
FULL = "\n".join([" ".join(FULL_NAMES), *[f"{one} > {other}" for one, other in itertools.permutations(FULL_NAMES, 2)]])
TEXTS = ["a", "abcdefgh", "a1 b2", "a b\na > b", "a b\na > b\nb > a", "x y z\nx > y\ny > z", FORK]
SIGNS = [chr(code) for code in range(32, 127)] + ["\n"]

WRONG = [
    "", " ", "\n", ">", "A", "aB", "1", "1a", "a_", "a-b", "abcdefghi", "a.", "a a", "a b a",
    "a b c d e f g h i", "a b c d e f g h a", " a", "a ", "a  b", "a\n", "\na", "a b\n", "a b\n\n", "\na b",
    "a b\na > b\n", "a b\n\na > b", "\na b\na > b", "a b\n a > b", "a b\na > b ", "a b\na  > b", "a b\na >  b",
    "a b\na>b", "a b\na >b", "a b\na> b", "a b\na < b", "a b\na >> b", "a b\na > > b", "a b\na b", "a b\na >",
    "a b\n> b", "a b\na > ", "a b\n > b", "a b\na > a", "a b\na > c", "a b\nc > a", "a b\na > b\na > b",
    "a b\na > b > a", "a b c\na > b c", "a b c\na > b > c", "a b\na", "a b\n>", "a b\n > ", "a b\na > b a > b",
    "a b\ta > b", "a b\r\na > b", "a\nb", "a, b", "(a b)", "a b\nb > b", "a > b", "a > b\na b", "a b\nA > b",
    "a b\na > b\nc", FULL + "\na > b", FULL + "\na > a", FULL + "\n", "a" * 6000, "a " * 3000, "\n" * 6000,
]


def is_text(value):
    """Whether a string is the text of works, told apart from the package's own way."""
    name = "[a-z][a-z0-9]{0,7}"
    if not re.fullmatch(f"{name}( {name}){{0,7}}(\n{name} > {name})*", value):
        return False
    first, *lines = value.split("\n")
    parts = first.split()
    pairs = [tuple(re.findall(name, line)) for line in lines]
    return (len(set(parts)) == len(parts) and len(set(pairs)) == len(pairs)
            and all(one != other and one in parts and other in parts for one, other in pairs))


def changed_lists(rows, more):
    """These rows with one of them left out, doubled, moved, or replaced, or with one more."""
    for at in range(len(rows)):
        yield rows[:at] + rows[at + 1:]
        yield rows[:at + 1] + rows[at:]
        for to in range(len(rows)):
            rest = rows[:at] + rows[at + 1:]
            yield rest[:to] + [rows[at]] + rest[to:]
        for row in more:
            yield rows[:at] + [row] + rows[at + 1:]
    for at in range(len(rows) + 1):
        for row in more:
            yield rows[:at] + [row] + rows[at:]


class TextsTest(unittest.TestCase):
    def refused(self, value):
        self.assertIs(catch(self, InvalidText, lambda: Works.read(value)).given, value)
        self.assertIs(catch(self, InvalidText, lambda: Works.read(text=value)).given, value)

    def judge(self, value):
        """Read this string; it must be refused exactly if it is no text."""
        if not is_text(value):
            self.refused(value)
            return False
        first, *lines = value.split("\n")
        wanted = Works(tuple(first.split()), tuple([(line.split()[0], line.split()[2]) for line in lines]))
        for works in (Works.read(value), Works.read(text=value)):
            self.assertIs(type(works), Works)
            self.assertEqual((works.parts, works.ties), (wanted.parts, wanted.ties))
            self.assertTrue(works == wanted)
            self.assertEqual(str(works), value)
        return True

    def test_texts_are_read_as_works_with_the_same_text(self):
        for text in [*TEXTS, FULL]:
            self.assertTrue(self.judge(text))

    def test_texts_of_works_are_read_as_equal_works(self):
        pairs = list(itertools.permutations(("p", "q1", "rrrrrrrr"), 2))
        for many in range(5):
            for ties in itertools.permutations(pairs, many):
                works = Works(("rrrrrrrr", "p", "q1"), ties)
                again = Works.read(str(works))
                self.assertTrue(again == works)
                self.assertEqual((again.parts, again.ties, str(again)), (works.parts, works.ties, str(works)))

    def test_wrong_texts(self):
        for value in WRONG:
            with self.subTest(value=value):
                self.assertFalse(is_text(value))
                self.refused(value)

    def test_one_sign_changed(self):
        for text in TEXTS:
            judged = set()
            for at in range(len(text) + 1):
                self.judge(text[:at] + text[at + 1:])
                for sign in SIGNS:
                    judged.add(self.judge(text[:at] + sign + text[at:]))
                    judged.add(self.judge(text[:at] + sign + text[at + 1:]))
            self.assertEqual(judged, {True, False})

    def test_one_word_changed(self):
        for text in TEXTS:
            words = re.findall("[^ \n]+|[ \n]", text)
            for changed in changed_lists(words, ["a", "b", "e", ">", " ", "\n", "", " > ", "abcdefghi"]):
                self.judge("".join(changed))

    def test_one_line_changed(self):
        for text in TEXTS:
            for changed in changed_lists(text.split("\n"), ["", "a", "a b", "a > b", "b > a", "a > a", "d > a", ">"]):
                self.judge("\n".join(changed))

    def test_names_of_one_and_two_signs(self):
        for sign in SIGNS:
            self.assertIs(self.judge(sign), sign in string.ascii_lowercase)
            self.assertIs(self.judge("a" + sign), sign in string.ascii_lowercase + string.digits)

    def test_values_of_other_kinds(self):
        others = [["a"], ("a",), ("a b", "a > b"), b"a b\na > b", Works(("a",)), Works]
        for at, value in enumerate([*others, *strange_values()]):
            with self.subTest(at=at):
                self.refused(value)

    def test_read_by_an_object(self):
        self.assertEqual(str(Works(("a",)).read("x y\ny > x")), "x y\ny > x")


if __name__ == "__main__":
    unittest.main()

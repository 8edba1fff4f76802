"""The console: each line and its answer, lines that are none, and what has been said."""

import inspect
import itertools
import random
import re
import unittest

import plain
import samples
from forcedsteer.boards import Board
from forcedsteer.console import Console
from forcedsteer.errors import (InvalidLeaders, InvalidName, InvalidText, InvalidTie, NothingToUndo, NotWorks,
                                UnknownName, WrongValue)
from forcedsteer.works import Works
from samples import FORK, LINE, NAMES
from strange import Hostile, catch, strange_values
from wrong import wrong_lots, wrong_works

QUESTIONS = ("text", "leaders", "known", "forces", "sure", "some", "fewest", "help")
CHANGES = {"tie": 2, "cut": 2, "lead": 1, "leave": 1, "undo": 0}
HELP = "text leaders known forces sure some fewest tie cut lead leave undo help"


def listed(words):
    return " ".join(words) or "-"


def fewest(works):
    """How many leaders are enough at least, by trying all lots."""
    return min(len(lot) for lot in plain.lots(works) if plain.known(works, lot) == works.parts)


def wanted(board, line):
    """The answer to a line, from a board that has had the same changes; it is changed, too."""
    works, leaders = board.works, board.leaders
    sure = plain.known(works, leaders) == works.parts
    some = plain.reached(works, leaders) == works.parts
    answers = {"text": str(works), "leaders": listed(leaders), "known": listed(plain.known(works, leaders)),
               "forces": listed(f"{one}>{other}" for one, other in plain.forces(works, leaders)),
               "sure": "yes" if sure else "no", "some": "yes" if some else "no", "help": HELP}
    if line in answers:
        return answers[line]
    if line == "fewest":
        return str(fewest(works))
    word, *names = line.split(" ")
    if CHANGES.get(word) != len(names) or not all(re.fullmatch("[a-z][a-z0-9]{0,7}", name) for name in names):
        return "what"
    try:
        getattr(board, word)(*names)
    except (UnknownName, InvalidName, InvalidTie, NothingToUndo):
        return "refused"
    return "done"


class ConsoleCase(unittest.TestCase):
    def state_of(self, console):
        """What the console answers to all questions, asked of it at its side."""
        return [console.say(line) for line in QUESTIONS]

    def unchanged(self, console, line, answer):
        """This answer, and nothing has changed, not even what can be taken back."""
        before = self.state_of(console)
        told = console.told
        self.assertEqual(console.say(line), answer)
        self.assertEqual(console.told, told + (answer,))
        self.assertEqual(self.state_of(console), before)


class ExamplesTest(unittest.TestCase):
    def test_the_examples(self):
        console = Console(FORK, ("a",))
        told = [console.say("sure"), console.say("some"), console.say("lead c"), console.say("forces"),
                console.say("tie d d"), console.say("leave b"), console.say("fewest")]
        self.assertEqual(told, ["no", "yes", "done", "a>b b>d", "refused", "refused", "2"])
        told = [console.say("leave a"), console.say("known"), console.say("undo"), console.say("leaders"),
                console.say("lead"), console.say("lead zz"), console.said]
        self.assertEqual(told, ["done", "c d", "done", "a c", "what", "refused", 13])


class InterfaceTest(unittest.TestCase):
    def test_methods_and_properties_stand_in_the_class(self):
        self.assertEqual(Console.__module__, "forcedsteer.console")
        self.assertEqual(list(inspect.signature(Console).parameters), ["works", "leaders"])
        self.assertEqual(list(inspect.signature(vars(Console)["say"]).parameters)[1:], ["line"])
        for name in ("said", "told"):
            self.assertIsInstance(vars(Console)[name], property)

    def test_by_name(self):
        console = Console(leaders=("x",), works=LINE)
        self.assertEqual(console.say(line="leaders"), "x")

    def test_consoles_are_equal_to_themselves_alone(self):
        one, other = Console(LINE, ("x",)), Console(LINE, ("x",))
        self.assertTrue(one == one and not one != one and one and other)
        for value in (other, Board(LINE, ("x",)), LINE, None, (), ""):
            self.assertTrue(one != value and not one == value and not value == one)


class AnswersTest(ConsoleCase):
    def test_each_question(self):
        console = Console(FORK, ("b", "a"))
        answers = [str(FORK), "b a", "a b c d", "a>c b>d", "yes", "yes", "2", HELP]
        self.assertEqual(self.state_of(console), answers)
        console = Console(FORK, ())
        self.assertEqual(self.state_of(console), [str(FORK), "-", "-", "-", "no", "no", "2", HELP])
        console = Console(LINE, ("y",))
        self.assertEqual(self.state_of(console), [str(LINE), "y", "y z", "y>z", "no", "no", "1", HELP])
        console = Console(LINE, ("z", "y", "x"))
        self.assertEqual(self.state_of(console), [str(LINE), "z y x", "x y z", "-", "yes", "yes", "1", HELP])
        console = Console(Works(("p",)), ())
        self.assertEqual(self.state_of(console), ["p", "-", "-", "-", "no", "no", "1", HELP])

    def test_questions_over_many_works(self):
        for works in [*samples.shaped(), *samples.drawn(3, 73)]:
            for leaders in samples.some_lots(works)[:6]:
                console, board = Console(works, leaders), Board(works, leaders)
                self.assertEqual(self.state_of(console), [wanted(board, line) for line in QUESTIONS])

    def test_each_change_and_a_step_back(self):
        for line, question, answer in (("tie d a", "text", str(FORK) + "\nd > a"), ("cut a c", "known", "a b d"),
                                       ("lead c", "leaders", "a c"), ("leave a", "leaders", "-")):
            console = Console(FORK, ("a",))
            before = self.state_of(console)
            self.assertEqual(console.say(line), "done")
            self.assertEqual(console.say(question), answer)
            self.assertEqual(console.say("undo"), "done")
            self.assertEqual(self.state_of(console), before)
            self.assertEqual(console.say("undo"), "refused")

    def test_changes_that_are_refused(self):
        console = Console(FORK, ("a",))
        console.say("lead d")
        for line in ("tie a b", "tie a a", "tie a zz", "tie zz a", "tie zz zz", "cut b a", "cut a a", "cut zz a",
                     "cut a zz", "lead a", "lead d", "lead zz", "leave b", "leave zz", "lead lead", "tie tie tie",
                     "lead a1234567", "cut undo undo"):
            self.unchanged(console, line, "refused")
        self.assertEqual(console.say("undo"), "done")
        self.unchanged(console, "undo", "refused")
        self.assertEqual(console.say("leaders"), "a")

    def test_questions_and_other_lines_change_nothing(self):
        console = Console(FORK, ("a",))
        console.say("lead c")
        for line in QUESTIONS + ("", "what", "lead", "lead Z"):
            before = console.say("leaders"), console.say("text")
            console.say(line)
            self.assertEqual((console.say("leaders"), console.say("text")), before)
        self.assertEqual((console.say("undo"), console.say("undo"), console.say("leaders")), ("done", "refused", "a"))

    def test_names_that_are_words_of_lines(self):
        words = ("tie", "cut", "lead", "leave", "undo", "help", "text", "known")
        console = Console(Works(words), ("undo", "lead"))
        for line, answer in (("tie tie cut", "done"), ("tie cut tie", "done"), ("cut tie cut", "done"),
                             ("lead leave", "done"), ("leave undo", "done"), ("lead help", "done"), ("undo", "done"),
                             ("leaders", "lead leave"), ("lead lead", "refused"), ("leave leave", "done"),
                             ("leaders", "lead"), ("text", "tie cut lead leave undo help text known\ncut > tie"),
                             ("known", "lead"), ("help", HELP), ("lead undo", "done"), ("undo undo", "what"),
                             ("help help", "what"), ("text known", "what"), ("lead tie", "done"),
                             ("known", "tie lead undo"), ("lead cut", "done"), ("forces", "-"), ("leave tie", "done"),
                             ("forces", "cut>tie")):
            self.assertEqual((line, console.say(line)), (line, answer))

    def test_a_console_beside_a_board_with_the_same_changes(self):
        draw = random.Random(79)
        for works in samples.drawn(3, 79):
            leaders = tuple(draw.sample(works.parts, draw.randint(0, len(works))))
            console, board, answers = Console(works, leaders), Board(works, leaders), []
            for _ in range(60):
                word = draw.choice([*CHANGES, *CHANGES, *CHANGES, *QUESTIONS[:6]])
                line = " ".join([word, *[draw.choice(works.parts + ("zz",)) for _ in range(CHANGES.get(word, 0))]])
                answers.append(wanted(board, line))
                self.assertEqual((line, console.say(line)), (line, answers[-1]))
            self.assertEqual((console.said, console.told), (60, tuple(answers)))
            for _ in range(board.changes):
                self.assertEqual(console.say("undo"), "done")
            self.assertEqual(console.say("undo"), "refused")
            self.assertEqual((console.say("text"), console.say("leaders")), (str(works), listed(leaders)))

    def test_two_consoles_side_by_side(self):
        one, other = Console(FORK, ("a",)), Console(FORK, ("a",))
        one.say("lead b")
        self.assertEqual((one.say("leaders"), other.say("leaders")), ("a b", "a"))
        self.assertEqual((one.said, other.said, other.told), (2, 1, ("a",)))


class OtherLinesTest(ConsoleCase):
    LINES = (*QUESTIONS, "tie d a", "cut a b", "lead b", "leave a", "undo")

    def test_no_lines(self):
        console = Console(FORK, ("a",))
        console.say("lead d")
        for line in ("", " ", "  ", "\n", "what", "done", "refused", "-", "known known", "undo a", "undo 1", "tie",
                     "cut", "lead", "leave", "tie a", "cut a", "tie a b c", "cut a b c", "lead a b", "leave a b", "~",
                     "a > b", "a b", "lead A", "lead 1a", "lead a_b", "lead a-b", "lead abcdefghi", "tie a B",
                     "cut B a", "tie a > b", "tie a b\n", "\ntie a b", "tie\na\nb", "tie a,b", "lead -", "Text", "TEXT",
                     "t", "tex", "textt", "fewest 2", "tie a abcdefghi", "tell", "said", "told", "say", "works",
                     "changes", "trial",
                     "tie a\tb", "lead  b", "exit", "quit", "help me", "a" * 6000, " ".join(["lead"] * 1000)):
            self.unchanged(console, line, "what")

    def test_lines_with_blanks(self):
        console = Console(FORK, ("a",))
        console.say("lead d")
        for line in self.LINES:
            for bent in (" " + line, line + " ", line + "\n", "\n" + line, line.replace(" ", "  ") + "  ",
                         line + " " + line, line + line):
                self.unchanged(console, bent, "what")
            if " " in line:
                for bent in (line.replace(" ", "  "), line.replace(" ", "\n"), line.replace(" ", "")):
                    self.unchanged(console, bent, "what")

    def test_lines_with_a_word_more_or_less(self):
        for line in self.LINES:
            words = line.split(" ")
            bent = [words[:at] + words[at + 1:] for at in range(len(words))]
            bent += [words[:at] + [words[at]] + words[at:] for at in range(len(words))]
            for rest in bent:
                console = Console(FORK, ("a",))
                console.say("lead d")
                self.unchanged(console, " ".join(rest), "what")

    def test_lines_with_a_sign_more_less_or_another_one(self):
        board_line = {}
        for line, sign in itertools.product(self.LINES, "a z0_>A~-\n"):
            for at in range(len(line) + 1):
                for bent in (line[:at] + sign + line[at:], line[:at] + line[at + 1:], line[:at] + sign + line[at + 1:]):
                    board_line[bent] = True
        for line in board_line:
            console, board = Console(FORK, ("a",)), Board(FORK, ("a",))
            console.say("lead d")
            board.lead("d")
            answer = wanted(board, line)
            if answer == "what":
                self.assertEqual(console.say(line), "what")
                self.assertEqual((console.say("leaders"), console.say("text")), ("a d", str(FORK)))
                self.assertEqual((console.say("undo"), console.say("undo")), ("done", "refused"))
            else:
                self.assertEqual(console.say(line), answer)
                self.assertEqual(console.say("leaders"), listed(board.leaders))


class SaidTest(ConsoleCase):
    def test_said_and_told(self):
        console = Console(LINE, ("x",))
        self.assertEqual((console.said, console.told), (0, ()))
        answers = []
        for line in ("sure", "what?", "lead x", "lead y", "", "leaders"):
            answers.append(console.say(line))
            self.assertEqual((console.said, console.told), (len(answers), tuple(answers)))
        self.assertEqual(answers, ["yes", "what", "refused", "done", "what", "x y"])
        self.assertEqual((type(console.said), type(console.told)), (int, tuple))
        for name in ("said", "told"):
            with self.assertRaises(AttributeError):
                setattr(console, name, 1)

    def test_what_was_told_stays_as_it_was(self):
        console = Console(LINE, ("x",))
        console.say("leaders")
        told = console.told
        console.say("lead y")
        self.assertEqual(told, ("x",))

    def test_what_is_no_string_is_no_line_said(self):
        console = Console(LINE, ("x",))
        console.say("lead z")
        for value in [*strange_values(), ("leaders",), ["leaders"], b"leaders", LINE, console]:
            for call in (lambda given=value: console.say(given), lambda given=value: console.say(line=given)):
                error = catch(self, InvalidText, call)
                self.assertIs(error.given, value)
                self.assertIsInstance(error, WrongValue)
                self.assertEqual((console.said, console.told), (1, ("done",)))
        self.assertEqual((console.say("leaders"), console.said), ("x z", 2))


class WrongArgumentsTest(unittest.TestCase):
    def test_works_and_leaders(self):
        for value, _ in wrong_works():
            for call in (lambda given=value: Console(given, ("a",)), lambda given=value: Console(given, Hostile()),
                         lambda given=value: Console(leaders=None, works=given)):
                self.assertIs(catch(self, NotWorks, call).given, value)
        for value, kept in wrong_lots():
            for call in (lambda given=value: Console(FORK, given),
                         lambda given=value: Console(leaders=given, works=FORK)):
                error = catch(self, InvalidLeaders, call)
                self.assertEqual((error.index, type(error.index)), (kept, type(kept)))

    def test_all_eight_parts(self):
        console = Console(samples.all_tied(8), NAMES[::-1])
        self.assertEqual(console.say("leaders"), " ".join(NAMES[::-1]))
        self.assertEqual(console.say("fewest"), "7")
        self.assertEqual(len(console.say("text").split("\n")), 57)


if __name__ == "__main__":
    unittest.main()

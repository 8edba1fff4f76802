"""Boards: changes, changes that are refused, steps back, and trials."""

import inspect
import itertools
import random
import unittest

import plain
import samples
from forcedsteer.boards import Board
from forcedsteer.errors import (InvalidLeaders, InvalidName, InvalidTie, NoAnswer, NothingToUndo, NotWorks, UnknownName,
                                WrongName, WrongValue)
from forcedsteer.works import Works
from samples import FORK, LINE, NAMES
from strange import Agreeing, Hostile, catch
from wrong import NO_PARTS, put, wrong_lots, wrong_works

METHODS = {"tie": ("one", "other"), "cut": ("one", "other"), "lead": ("part",), "leave": ("part",), "undo": (),
           "sure": (), "known": (), "trial": (), "tried": ("action",)}
CHANGES = ("tie", "cut", "lead", "leave")


class Halt(Exception):
    """An exception that no package knows."""


def state_of(board):
    return board.works.parts, board.works.ties, board.leaders, board.changes


class Shadow:
    """What a board should be: all that it has been, one pair for each change that can be taken back."""

    def __init__(self, works, leaders):
        self.past = [(works.ties, leaders)]

    def wanted(self, word, names):
        """The error that this change raises, or None, with what it keeps; a change that is done is noted."""
        ties, leaders = self.past[-1]
        if word == "undo":
            if len(self.past) == 1:
                return NothingToUndo, None
            self.past.pop()
            return None, None
        if word in ("tie", "cut"):
            if names[0] == names[1] or (names in ties) == (word == "tie"):
                return InvalidTie, names
            ties = ties + (names,) if word == "tie" else tuple(tie for tie in ties if tie != names)
        else:
            if (names[0] in leaders) == (word == "lead"):
                return InvalidName, names[0]
            leaders = leaders + names if word == "lead" else tuple(part for part in leaders if part != names[0])
        self.past.append((ties, leaders))
        return None, None


class BoardCase(unittest.TestCase):
    def same(self, board, works, shadow):
        """The board is what it should be."""
        ties, leaders = shadow.past[-1]
        self.assertEqual(state_of(board), (works.parts, ties, leaders, len(shadow.past) - 1))
        told = plain.known(Works(works.parts, ties), leaders)
        self.assertEqual(board.known(), told)
        self.assertIs(board.sure(), told == works.parts)

    def change(self, board, shadow, word, names):
        """One change, done or refused, as it should be; whether it was done."""
        kind, kept = shadow.wanted(word, names)
        before = state_of(board)
        if kind is None:
            self.assertIsNone(getattr(board, word)(*names))
            return True
        error = catch(self, kind, lambda: getattr(board, word)(*names))
        if kind is not NothingToUndo:
            self.assertEqual(error.given, kept)
        self.assertEqual(state_of(board), before)
        return False

    def drawn_change(self, draw, parts):
        word = draw.choice(CHANGES + ("undo",))
        names = tuple(draw.choice(parts) for _ in range({"tie": 2, "cut": 2, "undo": 0}.get(word, 1)))
        return word, names


class ExamplesTest(unittest.TestCase):
    def test_the_examples(self):
        board = Board(FORK, ("a",))
        told = [board.sure(), board.lead("b"), board.sure(), board.known(), board.cut("a", "c"), board.known(),
                board.undo(), board.leaders, board.changes]
        wanted = [False, None, True, ("a", "b", "c", "d"), None, ("a", "b", "d"), None, ("a", "b"), 1]
        self.assertEqual(told, wanted)
        self.assertEqual(catch(self, InvalidTie, lambda: board.tie("a", "b")).given, ("a", "b"))


class InterfaceTest(unittest.TestCase):
    def test_methods_and_properties_stand_in_the_class(self):
        self.assertEqual(Board.__module__, "forcedsteer.boards")
        for name, parameters in {**METHODS, "__init__": ("works", "leaders")}.items():
            method = vars(Board)[name]
            self.assertEqual(tuple(inspect.signature(method).parameters)[1:], parameters)
            for each in list(inspect.signature(method).parameters.values())[1:]:
                self.assertIs(each.kind, inspect.Parameter.POSITIONAL_OR_KEYWORD)
                self.assertIs(each.default, inspect.Parameter.empty)
        for name in ("works", "leaders", "changes"):
            self.assertIsInstance(vars(Board)[name], property)

    def test_by_name(self):
        board = Board(leaders=("x",), works=LINE)
        self.assertIsNone(board.tie(other="x", one="z"))
        self.assertIsNone(board.cut(one="x", other="y"))
        self.assertIsNone(board.lead(part="z"))
        self.assertIsNone(board.leave(part="x"))
        self.assertEqual(board.tried(action=lambda it: it.leaders), ("z",))
        self.assertEqual(state_of(board), (LINE.parts, (("y", "z"), ("z", "x")), ("z",), 4))

    def test_boards_are_equal_to_themselves_alone(self):
        one, other = Board(LINE, ("x",)), Board(LINE, ("x",))
        self.assertTrue(one == one and not one != one and one in [one])
        for value in (other, LINE, ("x",), None, 1, "", state_of(one), Board):
            self.assertTrue(one != value and not one == value and not value == one)
        self.assertTrue(one and other)
        with one.trial() as told:
            self.assertTrue(told == one and told != other)

    def test_properties_are_only_read(self):
        board = Board(LINE, ("x",))
        for name in ("works", "leaders", "changes"):
            with self.assertRaises(AttributeError):
                setattr(board, name, getattr(board, name))


class ChangesTest(BoardCase):
    def test_each_tie(self):
        for one, other in itertools.permutations(FORK.parts, 2):
            board, shadow = Board(FORK, ("a",)), Shadow(FORK, ("a",))
            there = (one, other) in FORK.ties
            self.assertIs(self.change(board, shadow, "tie", (one, other)), not there)
            self.assertIs(self.change(board, shadow, "cut", (one, other)), True)
            self.assertIs(self.change(board, shadow, "cut", (one, other)), False)
            self.assertIs(self.change(board, shadow, "tie", (one, other)), True)
            self.assertEqual(board.works.ties[-1], (one, other))
            self.same(board, FORK, shadow)

    def test_a_tie_with_itself(self):
        board = Board(FORK, ())
        for part in FORK.parts:
            for call in (board.tie, board.cut):
                error = catch(self, InvalidTie, lambda ask=call, name=part: ask(name, name))
                self.assertEqual((error.given, type(error.given)), ((part, part), tuple))
        self.assertEqual(state_of(board), (*state_of(Board(FORK, ()))[:3], 0))

    def test_a_new_tie_stands_behind_the_others(self):
        board = Board(LINE, ())
        board.cut("x", "y")
        self.assertEqual(board.works.ties, (("y", "z"),))
        board.tie("x", "y")
        self.assertEqual(board.works.ties, (("y", "z"), ("x", "y")))
        self.assertEqual(str(board.works), "x y z\ny > z\nx > y")
        board.undo()
        board.undo()
        self.assertEqual(board.works, LINE)

    def test_a_new_leader_stands_behind_the_others(self):
        board = Board(LINE, ("y", "x"))
        board.lead("z")
        self.assertEqual(board.leaders, ("y", "x", "z"))
        board.leave("y")
        self.assertEqual(board.leaders, ("x", "z"))
        board.lead("y")
        self.assertEqual(board.leaders, ("x", "z", "y"))
        for wanted in (("x", "z"), ("y", "x", "z"), ("y", "x")):
            board.undo()
            self.assertEqual(board.leaders, wanted)
        catch(self, NothingToUndo, board.undo)

    def test_all_ties_and_none(self):
        works = samples.untied(8)
        board, shadow = Board(works, NAMES[:7]), Shadow(works, NAMES[:7])
        for pair in samples.pairs(8):
            self.assertIs(self.change(board, shadow, "tie", pair), True)
        self.assertEqual((len(board.works.ties), board.changes), (56, 56))
        self.assertIs(board.sure(), True)
        for pair in samples.pairs(8):
            self.assertIs(self.change(board, shadow, "tie", pair), False)
            self.assertIs(self.change(board, shadow, "cut", pair), True)
        self.assertEqual((board.works.ties, board.changes), ((), 112))
        for _ in range(112):
            self.assertIs(self.change(board, shadow, "undo", ()), True)
        self.assertEqual(board.works, works)
        self.assertIs(self.change(board, shadow, "undo", ()), False)

    def test_steps_back_are_no_changes(self):
        board = Board(LINE, ("x",))
        error = catch(self, NothingToUndo, board.undo)
        self.assertIsInstance(error, (NoAnswer, ArithmeticError))
        board.lead("y")
        board.leave("x")
        board.undo()
        self.assertEqual(board.changes, 1)
        board.cut("x", "y")
        self.assertEqual(board.changes, 2)
        board.undo()
        board.undo()
        self.assertEqual(state_of(board), (LINE.parts, LINE.ties, ("x",), 0))

    def test_drawn_changes(self):
        draw = random.Random(61)
        for works in samples.drawn(5, 61):
            leaders = tuple(draw.sample(works.parts, draw.randint(0, len(works))))
            board, shadow = Board(works, leaders), Shadow(works, leaders)
            for _ in range(40):
                self.change(board, shadow, *self.drawn_change(draw, works.parts))
                self.same(board, works, shadow)
            while shadow.past[1:]:
                self.change(board, shadow, "undo", ())
                self.same(board, works, shadow)
            self.assertEqual((board.works, board.leaders), (works, leaders))

    def test_two_boards_side_by_side(self):
        draw = random.Random(67)
        boards = [(Board(FORK, ("a",)), Shadow(FORK, ("a",))) for _ in range(2)]
        for _ in range(200):
            board, shadow = draw.choice(boards)
            self.change(board, shadow, *self.drawn_change(draw, FORK.parts))
            for each, told in boards:
                self.same(each, FORK, told)
        self.assertEqual((FORK.ties, len(FORK.ties)), ((("a", "b"), ("a", "c"), ("b", "d"), ("c", "d")), 4))

    def test_what_was_told_stays_as_it_was(self):
        board = Board(LINE, ("x",))
        works, leaders = board.works, board.leaders
        board.cut("x", "y")
        board.lead("z")
        self.assertEqual((str(works), leaders), ("x y z\nx > y\ny > z", ("x",)))
        self.assertEqual(LINE.ties, (("x", "y"), ("y", "z")))


class TrialTest(BoardCase):
    def test_a_call_alone_changes_nothing(self):
        board = Board(FORK, ("a",))
        board.lead("b")
        held = board.trial()
        self.assertEqual(state_of(board), (FORK.parts, FORK.ties, ("a", "b"), 1))
        board.leave("a")
        # What the board is when the block begins counts, not when trial was called.
        with held as told:
            self.assertIs(told, board)
            board.undo()
            board.undo()
        self.assertEqual(state_of(board), (FORK.parts, FORK.ties, ("b",), 2))
        with held:
            board.undo()
        self.assertEqual(board.leaders, ("b",))

    def test_a_block_that_ends_well(self):
        board = Board(FORK, ("a",))
        board.cut("a", "b")
        before = state_of(board)
        with board.trial() as told:
            told.lead("b")
            told.tie("d", "a")
            self.assertEqual(board.changes, 3)
            self.assertEqual(board.leaders, ("a", "b"))
        self.assertEqual(state_of(board), before)
        board.undo()
        self.assertEqual(board.works, FORK)

    def test_a_block_that_ends_with_an_exception(self):
        board = Board(FORK, ("a",))
        board.cut("a", "b")
        before = state_of(board)
        for kind in (Halt, ValueError, KeyboardInterrupt, StopIteration, GeneratorExit):
            thrown = kind("it")
            with self.assertRaises(kind) as caught:
                with board.trial():
                    board.lead("d")
                    raise thrown
            self.assertIs(caught.exception, thrown)
            self.assertEqual(state_of(board), before)
        with self.assertRaises(InvalidName) as caught:
            with board.trial() as told:
                told.lead("d")
                told.lead("d")
        self.assertEqual(caught.exception.given, "d")
        self.assertEqual(state_of(board), before)

    def test_a_block_that_is_left(self):
        board = Board(FORK, ("a",))

        def leave_early():
            for part in FORK.parts[1:]:
                with board.trial():
                    board.lead(part)
                    if part == "b":
                        continue
                    return board.leaders
            return None

        self.assertEqual(leave_early(), ("a", "c"))
        self.assertEqual(state_of(board), (FORK.parts, FORK.ties, ("a",), 0))

    def test_a_step_back_behind_the_beginning(self):
        board = Board(LINE, ("x",))
        board.lead("y")
        board.leave("x")
        with board.trial():
            board.undo()
            board.undo()
            catch(self, NothingToUndo, board.undo)
            board.lead("z")
            self.assertEqual((board.leaders, board.changes), (("x", "z"), 1))
        self.assertEqual((board.leaders, board.changes), (("y",), 2))
        board.undo()
        self.assertEqual((board.leaders, board.changes), (("x", "y"), 1))

    def test_trials_within_trials(self):
        board = Board(LINE, ())
        with board.trial():
            board.lead("x")
            with self.assertRaises(Halt):
                with board.trial():
                    board.lead("y")
                    with board.trial():
                        board.undo()
                        board.undo()
                        board.lead("z")
                    self.assertEqual((board.leaders, board.changes), (("x", "y"), 2))
                    raise Halt
            self.assertEqual((board.leaders, board.changes), (("x",), 1))
        self.assertEqual((board.leaders, board.changes), ((), 0))

    def test_one_trial_within_itself(self):
        board = Board(LINE, ())
        held = board.trial()
        with held:
            board.lead("x")
            with held:
                board.lead("y")
                with held:
                    board.lead("z")
                self.assertEqual(board.leaders, ("x", "y"))
            self.assertEqual(board.leaders, ("x",))
        self.assertEqual(state_of(board), (LINE.parts, LINE.ties, (), 0))

    def test_drawn_trials(self):
        draw = random.Random(71)
        for works in samples.drawn(3, 71):
            board, shadow = Board(works, ()), Shadow(works, ())
            self.within(board, works, shadow, draw, 3)

    def within(self, board, works, shadow, draw, depth):
        for _ in range(8):
            self.change(board, shadow, *self.drawn_change(draw, works.parts))
            if depth and draw.random() < 0.5:
                inner, ill = Shadow(works, ()), draw.random() < 0.5
                inner.past = list(shadow.past)
                try:
                    with board.trial() as told:
                        self.within(told, works, inner, draw, depth - 1)
                        if ill:
                            raise Halt
                except Halt:
                    pass
            self.same(board, works, shadow)


class TriedTest(BoardCase):
    def test_what_the_action_returns(self):
        board = Board(FORK, ("a",))
        board.lead("d")
        before = state_of(board)
        for value in (None, 7, (), "told", board, FORK, [1], lambda: 1):
            def action(told, given=value):
                self.assertIs(told, board)
                self.assertIsNone(told.lead("b"))
                return given

            self.assertIs(board.tried(action), value)
            self.assertEqual(state_of(board), before)
        self.assertEqual(board.tried(lambda told: [told.lead("b"), told.sure(), told.known()]),
                         [None, True, FORK.parts])
        self.assertIs(board.sure(), False)

    def test_what_the_action_raises(self):
        board = Board(FORK, ("a",))
        thrown = Halt("it")

        def action(told):
            told.lead("b")
            told.cut("a", "b")
            raise thrown

        with self.assertRaises(Halt) as caught:
            board.tried(action)
        self.assertIs(caught.exception, thrown)
        self.assertEqual(state_of(board), (FORK.parts, FORK.ties, ("a",), 0))
        error = catch(self, InvalidName, lambda: board.tried(lambda told: told.leave("b")))
        self.assertEqual(error.given, "b")

    def test_actions_within_actions(self):
        board = Board(FORK, ("a",))
        told = board.tried(lambda one: (one.lead("b"), one.tried(lambda two: (two.leave("a"), two.leaders)),
                                        one.leaders))
        self.assertEqual(told, (None, (None, ("b",)), ("a", "b")))
        self.assertEqual(state_of(board), (FORK.parts, FORK.ties, ("a",), 0))

    def test_a_step_back_in_an_action(self):
        board = Board(FORK, ("a",))
        board.lead("b")
        board.tried(Board.undo)
        self.assertEqual(state_of(board), (FORK.parts, FORK.ties, ("a", "b"), 1))


class WrongArgumentsTest(BoardCase):
    def test_works(self):
        for value, _ in wrong_works():
            for call in (lambda given=value: Board(given, ("a",)), lambda given=value: Board(given, Hostile()),
                         lambda given=value: Board(leaders=None, works=given)):
                error = catch(self, NotWorks, call)
                self.assertIs(error.given, value)
                self.assertIsInstance(error, WrongValue)

    def test_leaders(self):
        for value, kept in wrong_lots():
            for call in (lambda given=value: Board(FORK, given), lambda given=value: Board(leaders=given, works=FORK)):
                error = catch(self, InvalidLeaders, call)
                self.assertEqual((error.index, type(error.index)), (kept, type(kept)))
                self.assertIsInstance(error, WrongValue)

    def test_names_of_no_parts(self):
        board = Board(FORK, ("a",))
        board.lead("d")
        before = state_of(board)
        for word, right in (("tie", ("d", "a")), ("cut", ("a", "b")), ("lead", ("b",)), ("leave", ("a",))):
            for place, value in itertools.product(range(len(right)), [*NO_PARTS, Agreeing(), ["a"], ("a", "b"), b"a"]):
                names = put(right, place, value)
                worse = names[:place + 1] + (Hostile(),) * (len(right) - place - 1)
                told = dict(zip(METHODS[word], worse))
                method = getattr(board, word)
                for call in (lambda ask=method, given=names: ask(*given), lambda ask=method, given=worse: ask(*given),
                             lambda ask=method, given=told: ask(**dict(reversed(list(given.items()))))):
                    error = catch(self, UnknownName, call)
                    self.assertIs(error.given, value)
                    self.assertIsInstance(error, (WrongName, LookupError))
                    self.assertEqual(state_of(board), before)

    def test_the_first_wrong_one_is_told(self):
        board = Board(FORK, ("a",))
        for call in (board.tie, board.cut):
            self.assertEqual(catch(self, UnknownName, lambda ask=call: ask("x", "y")).given, "x")
            self.assertEqual(catch(self, UnknownName, lambda ask=call: ask("a", "y")).given, "y")
            self.assertEqual(catch(self, UnknownName, lambda ask=call: ask("x", "x")).given, "x")

    def test_changes_that_are_refused(self):
        board = Board(FORK, ("b", "a"))
        before = state_of(board)
        refused = [("tie", ("a", "b"), InvalidTie), ("tie", ("b", "b"), InvalidTie), ("cut", ("b", "a"), InvalidTie),
                   ("cut", ("c", "c"), InvalidTie), ("lead", ("a",), InvalidName), ("leave", ("d",), InvalidName)]
        for word, names, kind in refused:
            method, told = getattr(board, word), dict(zip(METHODS[word], names))
            for call in (lambda ask=method, given=names: ask(*given), lambda ask=method, given=told: ask(**given)):
                error = catch(self, kind, call)
                self.assertEqual(error.given, names if kind is InvalidTie else names[0])
                self.assertIsInstance(error, WrongValue)
                self.assertEqual(state_of(board), before)


if __name__ == "__main__":
    unittest.main()

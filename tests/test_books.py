"""Books: works under names, wishes that hold, steps back, and trials."""

import inspect
import itertools
import random
import unittest

import plain
import samples
from forcedsteer.books import Book
from forcedsteer.errors import (Broken, InvalidIndex, InvalidName, InvalidWish, NoAnswer, NothingToUndo, NotWorks,
                                UnknownName, WrongName, WrongValue)
from forcedsteer.works import Works
from samples import FORK, LINE
from strange import Agreeing, Hostile, catch, nested, strange_values
from wrong import wrong_works

METHODS = {"wish": ("wish",), "lift": ("index",), "undo": (), "trial": (), "tried": ("action",)}
NO_NAMES = ["", "A", "a b", "a ", " a", "a\n", "1a", "a_", "abcdefghi", "a-b", "~", ("a",), ["a"], b"a", FORK,
            Agreeing(), *strange_values()]


class Halt(Exception):
    """An exception that no package knows."""


def no_empty_tuples():
    """Strange values without the empty tuple, which is a lot."""
    return [value for value in strange_values() if not isinstance(value, tuple) or len(value) > 0]


def state_of(book):
    return [(name, str(book[name])) for name in book.names], book.wishes, book.changes, len(book)


def filled(*wishes):
    """A book with the fork and the line, and these wishes."""
    book = Book()
    book["fork"] = FORK
    book["line"] = LINE
    for wish in wishes:
        book.wish(wish)
    return book


def fewest(works):
    return min(len(lot) for lot in plain.lots(works) if plain.known(works, lot) == works.parts)


def holds(works, wish):
    """Whether a wish holds, by the words of the document."""
    word, _, *rest = wish
    if word == "few":
        return fewest(works) <= rest[0]
    lot = rest[0]
    if len(set(lot)) < len(lot) or not set(lot) <= set(works.parts):
        return False
    if word == "sometimes":
        return plain.reached(works, lot) == works.parts
    return plain.known(works, lot) == works.parts and (word == "always" or plain.rounds(works, lot) <= rest[1])


class BookCase(unittest.TestCase):
    def refused(self, book, call, kind, kept=None):
        """The call raises this error, and nothing has changed."""
        before = state_of(book)
        error = catch(self, kind, call)
        self.assertEqual(state_of(book), before)
        if kind is Broken:
            self.assertEqual((error.index, type(error.index)), (kept, int))
            self.assertIsInstance(error, (NoAnswer, ArithmeticError))
        elif kind is not NothingToUndo:
            self.assertIs(error.given, kept)
        return error


class ExamplesTest(unittest.TestCase):
    def test_the_examples(self):
        book = Book()
        book["fork"] = FORK
        book.wish(("always", "fork", ("b", "a")))
        self.assertEqual([book.names, book.changes, len(book), book["fork"] == FORK], [("fork",), 2, 1, True])
        self.assertEqual(catch(self, Broken, lambda: book.wish(("few", "fork", 1))).index, 1)


class InterfaceTest(unittest.TestCase):
    def test_methods_and_properties_stand_in_the_class(self):
        self.assertEqual(Book.__module__, "forcedsteer.books")
        self.assertEqual(list(inspect.signature(Book).parameters), [])
        for name, parameters in METHODS.items():
            self.assertEqual(tuple(inspect.signature(vars(Book)[name]).parameters)[1:], parameters)
        for name in ("names", "wishes", "changes"):
            self.assertIsInstance(vars(Book)[name], property)
        for name in ("__getitem__", "__setitem__", "__contains__", "__len__"):
            self.assertIn(name, vars(Book))

    def test_by_name(self):
        book = filled()
        self.assertIsNone(book.wish(wish=("few", "line", 1)))
        self.assertIsNone(book.lift(index=0))
        self.assertEqual(book.tried(action=lambda it: it.changes), 4)

    def test_a_new_book(self):
        book = Book()
        self.assertEqual((book.names, book.wishes, book.changes, len(book)), ((), (), 0, 0))
        # Every object is true, also an empty book.
        self.assertTrue(book)
        self.assertIs(bool(book), True)

    def test_books_are_equal_to_themselves_alone(self):
        one, other = filled(), filled()
        self.assertTrue(one == one and not one != one and one in [one])
        for value in (other, Book(), FORK, None, (), {}, 0, False):
            self.assertTrue(one != value and not one == value and not value == one)

    def test_properties_are_only_read(self):
        book = filled()
        for name in ("names", "wishes", "changes"):
            with self.assertRaises(AttributeError):
                setattr(book, name, getattr(book, name))

    def test_nothing_is_iterated(self):
        with self.assertRaises(TypeError):
            list(filled())


class WorksTest(BookCase):
    def test_new_and_old_names(self):
        book = Book()
        for many, (name, works) in enumerate((("z", LINE), ("a", FORK), ("m1", LINE), ("a", LINE), ("a", LINE)), 1):
            book[name] = works
            self.assertIs(book[name], works)
            self.assertEqual(book.changes, many)
        self.assertEqual((book.names, len(book)), (("a", "m1", "z"), 3))
        for wanted in (LINE, FORK):
            book.undo()
            self.assertEqual(book["a"], wanted)
        book.undo()
        book.undo()
        self.assertEqual((book.names, len(book), book["z"] == LINE), (("z",), 1, True))
        self.refused(book, lambda: book["a"], UnknownName, "a")
        book.undo()
        self.assertEqual((book.names, book.changes), ((), 0))
        self.refused(book, book.undo, NothingToUndo)

    def test_names_ascend_as_strings_do(self):
        book = Book()
        for name in ("b", "a", "a1", "aa", "z9", "a9", "abcdefgh", "a10"):
            book[name] = LINE
        self.assertEqual(book.names, ("a", "a1", "a10", "a9", "aa", "abcdefgh", "b", "z9"))
        self.assertEqual((type(book.names), type(book.changes), type(len(book))), (tuple, int, int))

    def test_in(self):
        book = filled()
        for value in ("fork", "line"):
            self.assertIs(value in book, True)
        for value in (*NO_NAMES, "for", "forks", "a", ("fork",), FORK, book):
            self.assertIs(value in book, False)
        self.assertIs("fork" not in book, False)
        self.assertIs("fork" in Book(), False)

    def test_names_that_are_not_there(self):
        book = filled()
        for value in (*NO_NAMES, "for", "forks", "a", 0, -1, slice(0, 1), book):
            error = self.refused(book, lambda given=value: book[given], UnknownName, value)
            self.assertIsInstance(error, (WrongName, LookupError))

    def test_what_is_no_name_and_what_is_no_works(self):
        book = filled(("few", "fork", 2))

        def put(name, works):
            book[name] = works

        for value in NO_NAMES:
            for works in (FORK, None, Hostile()):
                error = self.refused(book, lambda given=value, told=works: put(given, told), InvalidName, value)
                self.assertIsInstance(error, WrongValue)
        for value, _ in wrong_works():
            for name in ("fork", "new"):
                error = self.refused(book, lambda given=value, told=name: put(told, given), NotWorks, value)
                self.assertIsInstance(error, WrongValue)

    def test_works_in_place_of_others(self):
        book = filled(("always", "fork", ("b", "a")), ("few", "line", 1), ("sometimes", "fork", ("a",)))
        tied = Works(FORK.parts, FORK.ties + (("a", "d"), ("b", "c")))
        loose = Works(FORK.parts, FORK.ties[:-1])
        other = Works(("a", "c", "e"), (("a", "c"), ("c", "e")))

        def put(name, works):
            book[name] = works

        self.refused(book, lambda: put("fork", tied), Broken, 0)
        self.refused(book, lambda: put("fork", other), Broken, 0)
        self.refused(book, lambda: put("line", samples.untied(2)), Broken, 1)
        self.refused(book, lambda: put("line", samples.untied(3)), Broken, 1)
        put("fork", loose)
        put("new", tied)
        put("line", samples.ring(8))
        self.assertEqual((book.changes, book["fork"] == loose, len(book)), (8, True, 3))
        book.lift(0)
        self.refused(book, lambda: put("fork", samples.untied(4)), Broken, 1)
        put("fork", Works(("c", "a"), (("a", "c"),)))
        self.assertEqual(book.changes, 10)


class WishesTest(BookCase):
    def test_each_form(self):
        right = [("always", "fork", ("a", "b")), ("always", "line", ("x",)), ("sometimes", "fork", ("a",)),
                 ("sometimes", "line", ("z", "x")), ("few", "fork", 2), ("few", "line", 10 ** 79), ("few", "line", 1),
                 ("rounds", "line", ("x",), 2), ("rounds", "fork", ("b", "a"), 1), ("rounds", "fork", FORK.parts, 0),
                 ("always", "fork", FORK.parts[::-1]), ("rounds", "line", ("x", "y"), 10 ** 79)]
        wrong = [("always", "fork", ("a",)), ("always", "line", ()), ("sometimes", "fork", ("b",)), ("few", "fork", 1),
                 ("few", "line", 0), ("rounds", "line", ("x",), 1), ("rounds", "line", ("y",), 9),
                 ("rounds", "fork", ("b", "a"), 0), ("sometimes", "line", ()), ("rounds", "fork", (), 0),
                 ("always", "line", ("z", "y"))]
        book = filled()
        for many, wish in enumerate(right):
            self.assertIsNone(book.wish(wish))
            self.assertEqual((book.wishes, book.changes), (tuple(right[:many + 1]), many + 3))
            for other in wrong:
                self.refused(book, lambda given=other: book.wish(given), Broken, many + 1)

    def test_lots_of_what_are_no_parts_or_one_twice_never_hold(self):
        book = filled()
        for lot in (("a", "b", "e"), ("e",), ("a", "b", "a"), ("a", "a", "b", "c", "d"), FORK.parts * 2, ("x",)):
            for wish in (("always", "fork", lot), ("sometimes", "fork", lot), ("rounds", "fork", lot, 10 ** 79)):
                self.refused(book, lambda given=wish: book.wish(given), Broken, 0)
        self.refused(book, lambda: book.wish(("always", "line", ("a",))), Broken, 0)

    def test_all_wishes_over_many_works(self):
        for works in [*samples.drawn(4, 83), FORK, LINE]:
            lots = [*samples.some_lots(works), (*works.parts[:1], "none"), works.parts[:1] * 2]
            wishes = [("few", "w", many) for many in range(9)]
            for lot in lots:
                wishes += [("always", "w", lot), ("sometimes", "w", lot)]
                wishes += [("rounds", "w", lot, many) for many in range(8)]
            book, many = Book(), 0
            book["w"] = works
            for wish in wishes:
                if not holds(works, wish):
                    self.refused(book, lambda given=wish, told=book: told.wish(given), Broken, many)
                    continue
                book.wish(wish)
                many += 1
                if many > 3:
                    book.lift(1)
                    many -= 1
                self.assertEqual(book.wishes[-1], wish)

    def test_the_first_wish_that_does_not_hold(self):
        wishes = (("few", "fork", 4), ("always", "fork", ("a", "b")), ("few", "line", 1),
                  ("rounds", "fork", ("a", "b"), 1),
                  ("sometimes", "fork", ("a",)))
        for order in itertools.permutations(wishes):
            book = filled(*order)

            def put(works, told=book):
                told["fork"] = works

            for works in (Works(FORK.parts), Works(FORK.parts, FORK.ties + (("a", "d"), ("b", "c"))), samples.untied(5),
                          Works(FORK.parts, FORK.ties + (("d", "b"), ("d", "a"))), LINE):
                told = [at for at, wish in enumerate(order) if wish[1] == "fork" and not holds(works, wish)]
                if told:
                    self.refused(book, lambda given=works: put(given), Broken, told[0])
                else:
                    put(works)

    def test_lifted_from_the_middle(self):
        wishes = tuple(("few", name, many) for name in ("fork", "line") for many in (2, 3, 4))
        for at in range(6):
            book = filled(*wishes)
            self.assertIsNone(book.lift(at))
            self.assertEqual((book.wishes, book.changes), (wishes[:at] + wishes[at + 1:], 9))
            book.undo()
            self.assertEqual((book.wishes, book.changes), (wishes, 8))
            for value in (6, -1, -6, 7, True, False, 10 ** 79, None, "0", (0,), [0], Hostile()):
                error = self.refused(book, lambda given=value, told=book: told.lift(given), InvalidIndex, value)
                self.assertIsInstance(error, WrongValue)

    def test_no_index_of_a_book_without_wishes(self):
        book = filled()
        for value in (0, 1, -1, False, *strange_values()):
            self.refused(book, lambda given=value: book.lift(given), InvalidIndex, value)

    def test_a_lifted_wish_binds_no_more(self):
        book = filled(("few", "fork", 2), ("few", "fork", 3))
        book.lift(0)
        book["fork"] = samples.star(4)
        self.assertEqual(book.wishes, (("few", "fork", 3),))
        self.refused(book, lambda: book.wish(("few", "fork", 2)), Broken, 1)
        book.undo()
        book.undo()
        self.assertEqual(book.wishes, (("few", "fork", 2), ("few", "fork", 3)))

    def test_the_same_wish_twice(self):
        wish = ("few", "fork", 2)
        book = filled(wish, wish)
        self.assertEqual((book.wishes, book.changes), ((wish, wish), 4))
        book.lift(0)
        self.assertEqual(book.wishes, (wish,))

    def test_each_change_counts_also_if_nothing_is_different(self):
        book = filled()
        book["fork"] = FORK
        self.assertEqual(book.changes, 3)
        book.undo()
        self.assertEqual((book.changes, book["fork"] == FORK), (2, True))


class WrongWishesTest(BookCase):
    def test_values_of_none_of_the_forms(self):
        lots = [None, "a", ["a"], ("A",), ("a", ""), (("a",),), (1,), "", ("a", None), ("abcdefghi",), (Hostile(),),
                ("a", Agreeing()), {"a"}, {"a": 1}, *no_empty_tuples()]
        bounds = [-1, True, False, None, "1", (1,), -10 ** 79, [1],
                  *[v for v in strange_values() if type(v) is not int]]
        wrong = [("few",), ("few", "fork"), ("few", "fork", 2, 2), ("few", "fork", ("a",)), ("always", "fork"),
                 ("always",), ("always", "fork", ("a", "b"), 1), ("always", "fork", 2), ("rounds", "fork", ("a", "b")),
                 ("rounds", "fork", 2), ("rounds", "fork", 2, ("a", "b")), ("rounds", "fork", ("a", "b"), 1, 1),
                 ("Always", "fork", ("a", "b")), ("always ", "fork", ("a", "b")), ("", "fork", ("a",)),
                 ("lead", "fork", ("a",)), ["few", "fork", 2], ("fork", "few", 2), "few fork 2", (("few", "fork", 2),),
                 ("not always", "fork", ("a",)), (b"few", "fork", 2), nested(100), *strange_values()]
        wrong += [(word, "fork", lot) for word in ("always", "sometimes") for lot in lots]
        wrong += [("rounds", "fork", lot, 1) for lot in lots]
        wrong += [("rounds", "fork", ("a", "b"), bound) for bound in bounds]
        wrong += [("few", "fork", bound) for bound in bounds]
        wrong += [("few", name, 2) for name in NO_NAMES] + [("always", name, ("a",)) for name in NO_NAMES]
        wrong += [(word, "fork", ("a", "b")) for word in strange_values()]
        wrong += [(word, Hostile(), Hostile()) for word in (Hostile(), "always", "few", "x")]
        book = filled(("few", "fork", 2))
        for at, value in enumerate(wrong):
            with self.subTest(at=at):
                error = self.refused(book, lambda given=value: book.wish(given), InvalidWish, value)
                self.assertIsInstance(error, WrongValue)
                catch(self, InvalidWish, lambda given=value: book.wish(wish=given))

    def test_names_that_the_book_does_not_have(self):
        book = filled()
        for name in ("a", "for", "forks", "line1"):
            for wish in (("few", name, 9), ("always", name, ("a",)), ("sometimes", name, ()),
                         ("rounds", name, ("a",), 1)):
                error = self.refused(book, lambda given=wish: book.wish(given), UnknownName, wish[1])
                self.assertIsInstance(error, WrongName)

    def test_the_form_is_looked_at_ahead_of_the_name(self):
        book = filled()
        for value in (("few", "none", -1), ("always", "none", ["a"]), ("rounds", "none", ("a",), None)):
            self.refused(book, lambda given=value: book.wish(given), InvalidWish, value)


class UndoTest(BookCase):
    def test_every_change_taken_back(self):
        draw = random.Random(89)
        for _ in range(12):
            book, past = Book(), []
            for _ in range(60):
                before = state_of(book)
                done = self.drawn_change(draw, book)
                if done:
                    past.append(before)
                else:
                    self.assertEqual(state_of(book), before)
                self.assertTrue(all(holds(book[wish[1]], wish) for wish in book.wishes))
                if draw.random() < 0.2 and past:
                    self.assertIsNone(book.undo())
                    self.assertEqual(state_of(book), past.pop())
            while past:
                book.undo()
                self.assertEqual(state_of(book), past.pop())
            self.refused(book, book.undo, NothingToUndo)

    def drawn_change(self, draw, book):
        """A change, done or refused; whether it was done."""
        works = draw.choice(samples.drawn(1, draw.randint(1, 5)))
        name = draw.choice(("p", "q"))
        lot = tuple(draw.sample(works.parts, draw.randint(0, len(works))))
        wish = draw.choice([("always", name, lot), ("sometimes", name, lot), ("few", name, draw.randint(0, 8)),
                            ("rounds", name, lot, draw.randint(0, 3))])
        try:
            word = draw.choice(("put", "put", "wish", "wish", "lift"))
            if word == "put":
                book[name] = works
            elif word == "wish":
                book.wish(wish)
            else:
                book.lift(draw.randint(-1, 3))
        except (Broken, InvalidIndex, UnknownName):
            return False
        return True

    def test_two_books_side_by_side(self):
        one, other = filled(("few", "fork", 2)), filled()
        other["fork"] = samples.untied(8)
        one.lift(0)
        self.assertEqual((one["fork"] == FORK, len(other["fork"]), one.changes, other.changes), (True, 8, 4, 3))


class TrialTest(BookCase):
    def test_a_call_alone_changes_nothing(self):
        book = filled()
        before = state_of(book)
        held = book.trial()
        self.assertEqual(state_of(book), before)
        book.wish(("few", "fork", 2))
        with self.assertRaises(Halt):
            with held as told:
                self.assertIs(told, book)
                book.lift(0)
                raise Halt
        # What the book was when the block began counts, not when trial was called.
        self.assertEqual((book.wishes, book.changes), ((("few", "fork", 2),), 3))

    def test_a_block_that_ends_well(self):
        book = filled()
        with book.trial() as told:
            self.assertIs(told, book)
            told.wish(("few", "fork", 2))
            told["new"] = LINE
            told.lift(0)
        self.assertEqual((book.names, book.wishes, book.changes), (("fork", "line", "new"), (), 5))
        book.undo()
        self.assertEqual(book.wishes, (("few", "fork", 2),))
        book.undo()
        book.undo()
        self.assertEqual((book.names, book.wishes, book.changes), (("fork", "line"), (), 2))

    def test_a_block_that_ends_with_an_exception(self):
        book = filled(("few", "fork", 2))
        before = state_of(book)
        for kind in (Halt, ValueError, KeyboardInterrupt, StopIteration, GeneratorExit):
            thrown = kind("it")
            with self.assertRaises(kind) as caught:
                with book.trial():
                    book["fork"] = LINE
                    book.lift(0)
                    book["line"] = FORK
                    raise thrown
            self.assertIs(caught.exception, thrown)
            self.assertEqual(state_of(book), before)
        with self.assertRaises(Broken) as caught:
            with book.trial() as told:
                told["more"] = LINE
                told["fork"] = samples.untied(4)
        self.assertEqual((caught.exception.index, state_of(book)), (0, before))

    def test_an_error_that_is_caught_within_the_block(self):
        book = filled()
        with book.trial():
            book.wish(("few", "fork", 2))
            catch(self, Broken, lambda: book.wish(("few", "fork", 1)))
        self.assertEqual((book.wishes, book.changes), ((("few", "fork", 2),), 3))

    def test_a_block_that_is_left(self):
        book = Book()

        def leave_early():
            for name in ("a", "b", "c"):
                with book.trial():
                    book[name] = LINE
                    if name == "a":
                        continue
                    return book.names
            return None

        self.assertEqual(leave_early(), ("a", "b"))
        self.assertEqual((book.names, book.changes), (("a", "b"), 2))

    def test_a_step_back_behind_the_beginning(self):
        book = filled(("few", "fork", 2))
        before = state_of(book)
        with self.assertRaises(Halt):
            with book.trial():
                for _ in range(3):
                    book.undo()
                catch(self, NothingToUndo, book.undo)
                book["other"] = LINE
                raise Halt
        self.assertEqual(state_of(book), before)
        with book.trial():
            book.undo()
            book.undo()
            book["other"] = LINE
        self.assertEqual((book.names, book.wishes, book.changes), (("fork", "other"), (), 2))
        book.undo()
        book.undo()
        self.refused(book, book.undo, NothingToUndo)

    def test_trials_within_trials(self):
        book = Book()
        with self.assertRaises(Halt):
            with book.trial():
                book["a"] = LINE
                with book.trial():
                    book["b"] = LINE
                self.assertEqual((book.names, book.changes), (("a", "b"), 2))
                with self.assertRaises(ValueError):
                    with book.trial():
                        book.undo()
                        book.undo()
                        book["c"] = LINE
                        raise ValueError
                self.assertEqual((book.names, book.changes), (("a", "b"), 2))
                raise Halt
        self.assertEqual((book.names, book.changes), ((), 0))
        with book.trial():
            with book.trial():
                book["a"] = LINE
                with self.assertRaises(Halt):
                    with book.trial():
                        book["b"] = LINE
                        raise Halt
        self.assertEqual((book.names, book.changes), (("a",), 1))

    def test_one_trial_within_itself(self):
        book = Book()
        held = book.trial()
        with held:
            book["a"] = LINE
            with self.assertRaises(Halt):
                with held:
                    book["b"] = LINE
                    with held:
                        book["c"] = LINE
                    self.assertEqual(book.names, ("a", "b", "c"))
                    raise Halt
            self.assertEqual(book.names, ("a",))
        self.assertEqual((book.names, book.changes), (("a",), 1))
        with self.assertRaises(Halt):
            with held:
                book.undo()
                raise Halt
        self.assertEqual((book.names, book.changes), (("a",), 1))


class TriedTest(BookCase):
    def test_what_the_action_returns(self):
        book = filled()
        for many, value in enumerate((None, 7, (), "told", book, FORK, [1])):
            def action(told, given=value):
                self.assertIs(told, book)
                self.assertIsNone(told.wish(("few", "fork", 2)))
                return given

            self.assertIs(book.tried(action), value)
            self.assertEqual((len(book.wishes), book.changes), (many + 1, many + 3))
        book.tried(Book.undo)
        self.assertEqual(book.changes, 8)

    def test_what_the_action_raises(self):
        book = filled(("few", "fork", 2))
        before = state_of(book)
        thrown = Halt("it")

        def action(told):
            told.lift(0)
            told["fork"] = LINE
            told.tried(lambda it: it.wish(("few", "fork", 1)))
            raise thrown

        with self.assertRaises(Halt) as caught:
            book.tried(action)
        self.assertIs(caught.exception, thrown)
        self.assertEqual(state_of(book), before)
        self.refused(book, lambda: book.tried(lambda told: (told.lift(0), told.wish(("few", "fork", 1)))), Broken, 0)


if __name__ == "__main__":
    unittest.main()

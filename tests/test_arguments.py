"""The arguments of the functions: their names, wrong ones at each place, and what the errors keep."""

import importlib
import inspect
import itertools
import unittest

import samples
from forcedsteer import errors
from forcedsteer.works import Works
from samples import FORK
from strange import Agreeing, Hostile, catch, nested, strange_values

ZERO = ((0, 0, 0, 0), (1, -1, 0, 0), (-1, 0, -1, 0), (0, 1, 1, 0))
FUNCTIONS = {
    "forcing": {"forces": "works leaders", "known": "works leaders", "always_steers": "works leaders",
                "rounds": "works leaders", "are_forces": "works leaders value", "spare": "works leaders"},
    "barring": {"is_bar": "works strengths leaders value", "barred": "works leaders", "is_fort": "works parts",
                "least_forts": "works"},
    "leading": {"least_leaders": "works", "fewest": "works", "lots_with": "works many", "all_least": "works"},
    "some": {"sometimes_steers": "works leaders", "reached": "works leaders", "good_strengths": "works leaders",
             "fewest_sometimes": "works", "roots": "works"},
}
RIGHT = {"works": FORK, "leaders": ("b", "a"), "strengths": ZERO, "parts": ("c", "b"), "many": 2, "value": ()}
ERRORS = {"works": "NotWorks", "leaders": "InvalidLeaders", "strengths": "InvalidStrengths", "parts": "InvalidLot",
          "many": "InvalidNumber"}
NO_PARTS = ["", "e", "A", "ab", "a ", " a", "a\n", "a b", ("a",), ["a"], FORK, *strange_values()]


def each_function():
    """Each function with the names of its parameters."""
    for module, told in FUNCTIONS.items():
        for name, parameters in told.items():
            yield getattr(importlib.import_module(f"forcedsteer.{module}"), name), parameters.split()


def put(row, at, value):
    """This tuple with another value at a place."""
    return row[:at] + (value,) + row[at + 1:]


def no_tuples():
    """Values that are no tuples, of all kinds."""
    others = ["", "a", "ab", "a b", [], ["a"], ["a", "b"], {"a"}, {"a": 1}, FORK, iter(("a",))]
    return [value for value in [*others, *strange_values()] if not isinstance(value, tuple)]


def wrong_lots():
    """Values that are no different parts of the fork, each with the index of the first wrong element."""
    told = [(value, None) for value in no_tuples()]
    for many, value in itertools.product(range(4), NO_PARTS):
        lot = ("d", "b", "a", "c")[:many]
        told += [(lot + (value,), many), (lot + (value, "a", "a"), many), (lot + (value, Hostile()), many)]
    for one, other in itertools.combinations(range(4), 2):
        told.append((put(("d", "b", "a", "c"), other, "dbac"[one]), other))
    told += [(FORK.parts + (value,), 4) for value in NO_PARTS[:9] + list(FORK.parts)]
    return told + [(("a", "a", ""), 1), (("a", "b", "", "b"), 2), (nested(100), 0), (("a",) * 5000, 1)]


def wrong_strengths():
    """Values that are no strengths of the fork, each with the index of the first wrong row."""
    told = [(value, None) for value in no_tuples()]
    rows = [(), ZERO[:3], ZERO + ((0, 0, 0, 0),), ZERO + (Hostile(),), (Hostile(),), (None,) * 5, nested(100)]
    told += [(value, None) for value in rows]
    for at, value in itertools.product(range(4), [*strange_values(), "abcd", FORK]):
        told += [(put(ZERO, at, value), at), (ZERO[:at] + (value,) * (4 - at), at)]
    for at, place in itertools.product(range(4), range(4)):
        elements = [10 ** 6 + 1, -10 ** 6 - 1, 10 ** 79, True, False, "1", (1,)]
        elements += [value for value in strange_values() if type(value) is not int]
        if at != place:
            elements += [0] if ZERO[at][place] else [1, -1, 10 ** 6]
        told += [(put(ZERO, at, put(ZERO[at], place, value)), at) for value in elements]
    for at, row in enumerate(ZERO):
        others = [row[:3], row + (0,), list(row), row[1:] + (row,), (row,), ()]
        told += [(put(ZERO, at, value), at) for value in others]
    return told


def wrong_values(name):
    """Wrong values for a parameter, each with what the error keeps."""
    if name == "works":
        return [(value, value) for value in ["a b\na > b", FORK.parts, (FORK.parts, FORK.ties), Works, [FORK], (FORK,),
                                             *strange_values()]]
    if name == "strengths":
        return wrong_strengths()
    if name == "many":
        whole = [value for value in strange_values() if type(value) is int and 0 <= value <= 8]
        others = [value for value in strange_values() if not any(value is number for number in whole)]
        return [(value, value) for value in ["2", "", (2,), [2], -1, 9, -9, 10 ** 79, -10 ** 79, *others]]
    return wrong_lots() + ([((), None)] if name == "parts" else [])


class InterfaceTest(unittest.TestCase):
    def test_each_function_stands_in_its_file_with_its_parameters(self):
        for module, told in FUNCTIONS.items():
            for name, parameters in told.items():
                function = getattr(importlib.import_module(f"forcedsteer.{module}"), name)
                self.assertTrue(inspect.isfunction(function))
                self.assertEqual(function.__module__, f"forcedsteer.{module}")
                given = inspect.signature(function).parameters.values()
                self.assertEqual([each.name for each in given], parameters.split())
                for each in given:
                    self.assertIs(each.kind, inspect.Parameter.POSITIONAL_OR_KEYWORD)
                    self.assertIs(each.default, inspect.Parameter.empty)


class RightArgumentsTest(unittest.TestCase):
    def test_by_position_and_by_name_and_again(self):
        for function, names in each_function():
            right = [RIGHT[name] for name in names]
            told = function(*right)
            for many in range(len(names) + 1):
                more = dict(reversed(list(zip(names[many:], right[many:]))))
                again = function(*right[:many], **more)
                self.assertEqual((again, type(again)), (told, type(told)))

    def test_equal_arguments(self):
        for function, names in each_function():
            right = {**RIGHT, "works": Works.read(str(FORK)), "leaders": tuple(list(RIGHT["leaders"]))}
            self.assertEqual(function(*[right[name] for name in names]), function(*[RIGHT[name] for name in names]))

    def test_works_stay_as_they_were(self):
        works = Works.read(str(FORK))
        for function, names in each_function():
            function(*[{**RIGHT, "works": works}[name] for name in names])
            self.assertEqual((works.parts, works.ties), (FORK.parts, FORK.ties))

    def test_the_greatest_strengths(self):
        most = 10 ** 6
        is_bar = importlib.import_module("forcedsteer.barring").is_bar
        for one, other in itertools.product((most, -most), repeat=2):
            strengths = ((other, 0, 0, 0), (one, one, 0, 0), (-one, 0, one, 0), (0, other, other, -one))
            self.assertIs(is_bar(FORK, strengths, (), ((0, 0, 0, 1), -one)), False)
            self.assertIs(is_bar(FORK, strengths, (), ((1, 0, 0, 0), other)), True)
        for works in samples.shaped():
            for strengths in samples.drawn_strengths(works):
                self.assertIs(is_bar(works, strengths, works.parts, ()), False)


class WrongArgumentsTest(unittest.TestCase):
    def check(self, function, names, place, told):
        """The wrong value at this place is told, by position and by name, also with what is behind it wrong."""
        value, kept = told
        right = [RIGHT[name] for name in names]
        wrong = put(tuple(right), place, value)
        worse = wrong[:place + 1] + (Hostile(),) * (len(names) - place - 1)
        calls = [lambda: function(*wrong), lambda: function(*worse), lambda: function(**dict(zip(names, wrong))),
                 lambda: function(**dict(reversed(list(zip(names, worse))))),
                 lambda: function(*right[:place], **dict(zip(names[place:], wrong[place:])))]
        kind = getattr(errors, ERRORS[names[place]])
        attribute = "given" if names[place] in ("works", "many") else "index"
        for call in calls:
            error = catch(self, kind, call)
            self.assertIsInstance(error, errors.WrongValue)
            self.assertIsInstance(error, ValueError)
            self.assertNotIsInstance(error, (LookupError, ArithmeticError))
            found = getattr(error, attribute)
            if attribute == "given":
                self.assertIs(found, kept)
            else:
                self.assertEqual((found, type(found)), (kept, type(kept)))

    def test_at_each_place(self):
        for function, names in each_function():
            for place, name in enumerate(names):
                if name == "value":
                    continue
                for at, told in enumerate(wrong_values(name)):
                    with self.subTest(function=function.__name__, name=name, at=at):
                        self.check(function, names, place, told)

    def test_the_samples_are_many(self):
        many = {"works": 40, "leaders": 400, "strengths": 500, "parts": 400, "many": 40}
        for name, least in many.items():
            self.assertGreater(len(wrong_values(name)), least)

    def test_values_that_agree_with_everything(self):
        for function, names in each_function():
            for place, name in enumerate(names):
                if name in ("leaders", "parts"):
                    self.check(function, names, place, ((Agreeing(),), 0))
                    self.check(function, names, place, (("a", Agreeing()), 1))

    def test_parts_of_other_works(self):
        for function, names in each_function():
            for place, name in enumerate(names):
                if name in ("leaders", "parts"):
                    for lot, at in ((("x",), 0), (("a", "b", "x"), 2), (("c", "y", "a"), 1)):
                        self.check(function, names, place, (lot, at))


if __name__ == "__main__":
    unittest.main()

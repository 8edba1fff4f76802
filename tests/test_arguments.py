"""The arguments of the functions: their names, wrong ones at each place, and what the errors keep."""

import importlib
import inspect
import itertools
import unittest

import samples
from forcedsteer import errors
from forcedsteer.works import Works
from samples import FORK
from strange import Agreeing, Hostile, catch
from wrong import ERRORS, RIGHT, put, wrong_values

FUNCTIONS = {
    "forcing": {"forces": "works leaders", "known": "works leaders", "always_steers": "works leaders",
                "rounds": "works leaders", "are_forces": "works leaders value", "spare": "works leaders"},
    "barring": {"is_bar": "works strengths leaders value", "barred": "works leaders", "is_fort": "works parts",
                "least_forts": "works"},
    "leading": {"least_leaders": "works", "fewest": "works", "lots_with": "works many", "all_least": "works"},
    "some": {"sometimes_steers": "works leaders", "reached": "works leaders", "good_strengths": "works leaders",
             "fewest_sometimes": "works", "roots": "works"},
    "days": {"day": "works strengths leaders first push", "after": "works strengths leaders first pushes",
             "rank": "works strengths leaders", "steers": "works strengths leaders",
             "lead": "works strengths leaders first last many", "soonest": "works strengths leaders first last"},
    "mending": {"mending": "works leaders offers", "doubtful": "works leaders doubts",
                "telling_doubt": "works leaders doubts", "surely_known": "works leaders doubts"},
    "telling": {"fits": "works strengths leaders seen", "strengths_seen": "works leaders seen",
                "ties_seen": "works leaders seen"},
    "certificates": {"certify_leaders": "works leaders", "certify_some": "works leaders",
                     "certify_fort": "works leaders",
                     "certify_lead": "works strengths leaders first last many"},
}


def each_function():
    """Each function with the names of its parameters."""
    for module, told in FUNCTIONS.items():
        for name, parameters in told.items():
            yield getattr(importlib.import_module(f"forcedsteer.{module}"), name), parameters.split()


class InterfaceTest(unittest.TestCase):
    def test_each_function_stands_in_its_file_with_its_parameters(self):
        for module, told in FUNCTIONS.items():
            for name, parameters in told.items():
                function = getattr(importlib.import_module(f"forcedsteer.{module}"), name)
                self.assertTrue(inspect.isfunction(function))
                self.assertEqual(function.__module__, f"forcedsteer.{module}")
                given = inspect.signature(function).parameters.values()
                self.assertEqual([each.name for each in given], parameters.split())
                for each in given:
                    self.assertIs(each.kind, inspect.Parameter.POSITIONAL_OR_KEYWORD)
                    self.assertIs(each.default, inspect.Parameter.empty)


class RightArgumentsTest(unittest.TestCase):
    def test_by_position_and_by_name_and_again(self):
        for function, names in each_function():
            right = [RIGHT[name] for name in names]
            told = function(*right)
            for many in range(len(names) + 1):
                more = dict(reversed(list(zip(names[many:], right[many:]))))
                again = function(*right[:many], **more)
                self.assertEqual((again, type(again)), (told, type(told)))

    def test_equal_arguments(self):
        for function, names in each_function():
            right = {**RIGHT, "works": Works.read(str(FORK)), "leaders": tuple(list(RIGHT["leaders"]))}
            self.assertEqual(function(*[right[name] for name in names]), function(*[RIGHT[name] for name in names]))

    def test_works_stay_as_they_were(self):
        works = Works.read(str(FORK))
        for function, names in each_function():
            function(*[{**RIGHT, "works": works}[name] for name in names])
            self.assertEqual((works.parts, works.ties), (FORK.parts, FORK.ties))

    def test_the_greatest_strengths(self):
        most = 10 ** 6
        is_bar = importlib.import_module("forcedsteer.barring").is_bar
        for one, other in itertools.product((most, -most), repeat=2):
            strengths = ((other, 0, 0, 0), (one, one, 0, 0), (-one, 0, one, 0), (0, other, other, -one))
            self.assertIs(is_bar(FORK, strengths, (), ((0, 0, 0, 1), -one)), False)
            self.assertIs(is_bar(FORK, strengths, (), ((1, 0, 0, 0), other)), True)
        for works in samples.shaped():
            for strengths in samples.drawn_strengths(works):
                self.assertIs(is_bar(works, strengths, works.parts, ()), False)


class WrongArgumentsTest(unittest.TestCase):
    def check(self, function, names, place, told):
        """The wrong value at this place is told, by position and by name, also with what is behind it wrong."""
        value, kept = told
        right = [RIGHT[name] for name in names]
        wrong = put(tuple(right), place, value)
        worse = wrong[:place + 1] + (Hostile(),) * (len(names) - place - 1)
        calls = [lambda: function(*wrong), lambda: function(*worse), lambda: function(**dict(zip(names, wrong))),
                 lambda: function(**dict(reversed(list(zip(names, worse))))),
                 lambda: function(*right[:place], **dict(zip(names[place:], wrong[place:])))]
        kind = getattr(errors, ERRORS[names[place]])
        attribute = "given" if names[place] in ("works", "many") else "index"
        for call in calls:
            error = catch(self, kind, call)
            self.assertIsInstance(error, errors.WrongValue)
            self.assertIsInstance(error, ValueError)
            self.assertNotIsInstance(error, (LookupError, ArithmeticError))
            found = getattr(error, attribute)
            if attribute == "given":
                self.assertIs(found, kept)
            else:
                self.assertEqual((found, type(found)), (kept, type(kept)))

    def test_at_each_place(self):
        for function, names in each_function():
            for place, name in enumerate(names):
                if name == "value":
                    continue
                for at, told in enumerate(wrong_values(function.__name__, name)):
                    with self.subTest(function=function.__name__, name=name, at=at):
                        self.check(function, names, place, told)

    def test_the_samples_are_many(self):
        many = {"works": 40, "leaders": 400, "strengths": 500, "parts": 400, "many": 40, "first": 500, "last": 500,
                "push": 400, "pushes": 1000, "seen": 4000, "offers": 5000, "doubts": 4000}
        self.assertEqual(set(many), set(ERRORS))
        for name, least in many.items():
            self.assertGreater(len(wrong_values("", name)), least)

    def test_values_that_agree_with_everything(self):
        for function, names in each_function():
            for place, name in enumerate(names):
                if name in ("leaders", "parts"):
                    self.check(function, names, place, ((Agreeing(),), 0))
                    self.check(function, names, place, (("a", Agreeing()), 1))

    def test_parts_of_other_works(self):
        for function, names in each_function():
            for place, name in enumerate(names):
                if name in ("leaders", "parts"):
                    for lot, at in ((("x",), 0), (("a", "b", "x"), 2), (("c", "y", "a"), 1)):
                        self.check(function, names, place, (lot, at))


if __name__ == "__main__":
    unittest.main()

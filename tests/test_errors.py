"""The errors: how each class is made, what it keeps, and what stands above it."""

import unittest

from forcedsteer import errors
from strange import catch, strange_values

BASES = {"WrongValue": ValueError, "WrongName": LookupError, "NoAnswer": ArithmeticError}

# Each class with its base class and its attribute, None if it has none.
CLASSES = {
    "InvalidText": ("WrongValue", "given"),
    "InvalidNumber": ("WrongValue", "given"),
    "InvalidName": ("WrongValue", "given"),
    "InvalidWish": ("WrongValue", "given"),
    "InvalidIndex": ("WrongValue", "given"),
    "InvalidTie": ("WrongValue", "given"),
    "NotWorks": ("WrongValue", "given"),
    "InvalidParts": ("WrongValue", "index"),
    "InvalidTies": ("WrongValue", "index"),
    "InvalidLeaders": ("WrongValue", "index"),
    "InvalidStrengths": ("WrongValue", "index"),
    "InvalidState": ("WrongValue", "index"),
    "InvalidPushes": ("WrongValue", "index"),
    "InvalidLot": ("WrongValue", "index"),
    "InvalidOffers": ("WrongValue", "index"),
    "InvalidDoubts": ("WrongValue", "index"),
    "InvalidSeen": ("WrongValue", "index"),
    "UnknownName": ("WrongName", "given"),
    "NoWay": ("NoAnswer", None),
    "TooMany": ("NoAnswer", "given"),
    "NothingToUndo": ("NoAnswer", None),
    "Broken": ("NoAnswer", "index"),
}


def of_package(above):
    """Those of these classes that the package defines."""
    return [kind for kind in above if kind.__module__.split(".")[0] == "forcedsteer"]


class ErrorsTest(unittest.TestCase):
    def raised(self, error):
        def call():
            raise error

        return catch(self, type(error), call)

    def test_the_module_defines_these_classes_and_no_others(self):
        found = [name for name, value in vars(errors).items() if isinstance(value, type)]
        self.assertEqual(sorted(found), sorted([*BASES, *CLASSES]))
        for name in found:
            self.assertEqual(getattr(errors, name).__module__, "forcedsteer.errors")

    def test_base_classes_stand_under_the_classes_of_python(self):
        for name, above in BASES.items():
            with self.subTest(name=name):
                base = getattr(errors, name)
                self.assertEqual(base.__bases__, (above,))
                self.assertEqual(of_package(base.__mro__), [base])

    def test_each_class_stands_under_its_base_class_and_no_other(self):
        for name, (base, _) in CLASSES.items():
            with self.subTest(name=name):
                kind = getattr(errors, name)
                self.assertEqual(of_package(kind.__mro__), [kind, getattr(errors, base)])
                for above in (ValueError, LookupError, ArithmeticError):
                    self.assertIs(issubclass(kind, above), above is BASES[base])

    def test_attributes_are_kept_by_position_and_by_name(self):
        for name, (_, attribute) in CLASSES.items():
            if attribute is None:
                continue
            kind = getattr(errors, name)
            for at, value in enumerate(["a", ("a", "b"), 7, *strange_values()]):
                with self.subTest(name=name, at=at):
                    for error in (kind(value), kind(**{attribute: value})):
                        self.assertEqual(vars(error).keys(), {attribute})
                        self.assertIs(getattr(error, attribute), value)
                        self.assertIs(getattr(self.raised(error), attribute), value)

    def test_two_objects_keep_their_own_attributes(self):
        for name, (_, attribute) in CLASSES.items():
            if attribute is not None:
                with self.subTest(name=name):
                    one, other = getattr(errors, name)(1), getattr(errors, name)(2)
                    self.assertEqual([getattr(one, attribute), getattr(other, attribute)], [1, 2])

    def test_classes_without_attributes_are_made_of_nothing(self):
        for name, (_, attribute) in CLASSES.items():
            if attribute is None:
                with self.subTest(name=name):
                    error = self.raised(getattr(errors, name)())
                    self.assertEqual(vars(error), {})

    def test_errors_are_equal_to_themselves_alone_and_true(self):
        for name, (_, attribute) in CLASSES.items():
            with self.subTest(name=name):
                passed = () if attribute is None else (None,)
                one, other = getattr(errors, name)(*passed), getattr(errors, name)(*passed)
                self.assertTrue(one == one)
                self.assertFalse(one == other)
                self.assertTrue(one != other)
                self.assertTrue(one)


if __name__ == "__main__":
    unittest.main()

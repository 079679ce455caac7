"""The error classes of the interface."""

import unittest

from flagsteps import errors
from tests.helpers import Case

ATTRIBUTES = {
    "InvalidRules": ("part", "index"), "InvalidClause": (), "UnknownClause": (), "UnknownSwitch": ("name",),
    "Impossible": (), "InvalidState": ("index",), "IllegalState": ("index",), "IllegalStep": ("index", "clause"),
    "NoWay": ("circle",), "NoGoal": (), "AlreadyOpen": (), "InvalidStates": ("index",), "TooManyClauses": (),
    "DifferentNames": (), "InvalidOperation": ("index",), "TooManySwitches": (), "LastSwitch": (), "InvalidName": (),
    "NotationError": ("row", "word"), "InvalidCount": (), "DecodeError": ("offset",),
}


class ErrorsTest(Case):
    def test_base_is_a_value_error(self):
        self.assertEqual(errors.StepError.__bases__, (ValueError,))

    def test_all_classes_are_direct_subclasses(self):
        for name in ATTRIBUTES:
            with self.subTest(name):
                self.assertEqual(getattr(errors, name).__bases__, (errors.StepError,))
                self.assertEqual(getattr(errors, name).__module__, "flagsteps.errors")

    def test_there_are_no_other_classes(self):
        classes = {name for name, value in vars(errors).items() if isinstance(value, type)}
        self.assertEqual(classes, {"StepError", *ATTRIBUTES})

    def test_attributes_are_set_when_the_error_is_created(self):
        for name, attributes in ATTRIBUTES.items():
            values = tuple(f"value {number}" for number in range(len(attributes)))
            with self.subTest(name):
                error = getattr(errors, name)(*values)
                self.same(vars(error), dict(zip(attributes, values)))

    def test_a_switch_may_be_of_any_kind(self):
        for value in ((), ["a"], "a", 10 ** 5000, True, None):
            self.same(errors.UnknownSwitch(value).name is value, True)


if __name__ == "__main__":
    unittest.main()

"""Point [4]: the errors."""

import unittest

from onewitness import errors
from onewitness.errors import (
    BadMachine, BadRow, BadShowing, BadText, Forgets, NoDeed, NoState, Refused, TooGreat, WitnessError,
)
from tests.helper import any_values

TOLD = {
    BadMachine: ("at",), BadRow: ("at",), BadShowing: ("at",), BadText: ("at",), Refused: ("at",),
    TooGreat: ("most",), Forgets: ("deed", "one", "other"), NoState: ("state",), NoDeed: ("deed",),
}


class ErrorsTest(unittest.TestCase):

    def test_base_classes(self):
        self.assertEqual(WitnessError.__bases__, (ValueError,))
        for name in ("BadMachine", "BadRow", "BadShowing", "BadText", "Refused", "TooGreat", "Forgets"):
            self.assertEqual(getattr(errors, name).__bases__, (WitnessError,), name)
        for name in ("NoState", "NoDeed"):
            self.assertEqual(getattr(errors, name).__bases__, (KeyError,), name)
            self.assertFalse(issubclass(getattr(errors, name), WitnessError), name)

    def test_no_told_error_is_derived_from_another_one(self):
        for one in TOLD:
            for other in TOLD:
                self.assertEqual(issubclass(one, other), one is other, (one, other))

    def test_arguments_are_kept_by_position_and_by_name(self):
        for error_class, names in TOLD.items():
            for value in any_values() + [{1: 2}, object(), error_class, {3}, b"x", 1.5]:
                values = [value] + [object() for _ in names[1:]]
                by_position = error_class(*values)
                by_name = error_class(**dict(zip(names, values)))
                for error in (by_position, by_name):
                    self.assertEqual(sorted(vars(error)), sorted(names))
                    for name, kept in zip(names, values):
                        self.assertIs(getattr(error, name), kept)

    def test_a_kept_list_is_not_copied(self):
        for error_class, names in TOLD.items():
            value = [[1], 2]
            error = error_class(*[value for _ in names])
            value.append(3)
            for name in names:
                self.assertEqual(getattr(error, name), [[1], 2, 3])

    def test_as_many_arguments_as_told(self):
        for error_class, names in TOLD.items():
            for many in (len(names) - 1, len(names) + 1):
                with self.assertRaises(TypeError):
                    error_class(*range(many))

    def test_they_are_raised_and_caught_by_their_bases(self):
        with self.assertRaises(ValueError):
            raise BadMachine(0)
        with self.assertRaises(WitnessError):
            raise Forgets(0, 1, 2)
        with self.assertRaises(KeyError):
            raise NoDeed([0])


if __name__ == "__main__":
    unittest.main()

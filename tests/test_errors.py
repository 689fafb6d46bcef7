"""The errors: their bases and their attributes."""

import unittest

from canonvoices import errors

PLAIN = (
    "OutOfRange",
    "InvalidNumber",
    "TooLong",
    "Contradiction",
    "UnknownVoice",
    "TooManyVoices",
    "InvalidName",
    "UnknownName",
)

WITH_ATTRIBUTES = {
    "InvalidMelody": ("index",),
    "InvalidRound": ("part", "index"),
    "TextFault": ("word",),
    "InvalidCode": ("place",),
    "InvalidOperation": ("place",),
}


class Errors(unittest.TestCase):
    def test_base_is_a_value_error(self):
        self.assertEqual(errors.CanonError.__bases__, (ValueError,))

    def test_all_are_direct_subclasses(self):
        for name in PLAIN + tuple(WITH_ATTRIBUTES):
            with self.subTest(name):
                error = getattr(errors, name)
                self.assertEqual(error.__bases__, (errors.CanonError,))
                self.assertEqual(error.__module__, "canonvoices.errors")

    def test_there_are_no_others(self):
        found = [name for name, value in vars(errors).items() if isinstance(value, type)]
        self.assertEqual(sorted(found), sorted(["CanonError", *PLAIN, *WITH_ATTRIBUTES]))

    def test_attributes_are_set_at_creation(self):
        for name, attributes in WITH_ATTRIBUTES.items():
            with self.subTest(name):
                values = ["voices", 3][-len(attributes):]
                error = getattr(errors, name)(*values)
                self.assertEqual([getattr(error, attribute) for attribute in attributes], values)
                self.assertEqual(sorted(vars(error)), sorted(attributes))

    def test_attributes_by_keyword(self):
        error = errors.InvalidRound(part="clashing", index=4)
        self.assertEqual((error.part, error.index), ("clashing", 4))

    def test_others_take_a_message(self):
        for name in PLAIN:
            with self.subTest(name):
                error = getattr(errors, name)("why")
                self.assertEqual(str(error), "why")


if __name__ == "__main__":
    unittest.main()

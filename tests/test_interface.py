"""The names, arguments and places that the document's interface lists."""

import inspect
import unittest

from canonvoices.melodies import Melody
from canonvoices.rounds import Round

CLASHING = (1, 2, 6, 10, 11)


class Interface(unittest.TestCase):
    def test_classes_are_defined_in_their_files(self):
        self.assertEqual(Melody.__module__, "canonvoices.melodies")
        self.assertEqual(Round.__module__, "canonvoices.rounds")

    def test_properties(self):
        for owner, names in ((Melody, "notes pitches text"), (Round, "voices clashing")):
            for name in names.split():
                with self.subTest(name):
                    self.assertIsInstance(vars(owner)[name], property)
                    self.assertIsNone(vars(owner)[name].fset)

    def test_arguments(self):
        methods = {
            "chord": ["beat"],
            "clashes": ["first", "last"],
            "first_clash": [],
            "count_clashes": ["beats"],
            "nth_clash": ["number"],
            "first_difference": ["other"],
        }
        for name, arguments in methods.items():
            with self.subTest(name):
                self.assertIn(name, vars(Round))
                told = inspect.signature(getattr(Round, name)).parameters
                self.assertEqual(list(told), ["self", *arguments])

    def test_parse_is_a_class_method(self):
        self.assertIsInstance(vars(Melody)["parse"], classmethod)
        self.assertEqual(list(inspect.signature(Melody.parse).parameters), ["text"])

    def test_clashes_is_a_generator(self):
        self.assertTrue(inspect.isgeneratorfunction(Round.clashes))

    def test_making_a_round(self):
        told = inspect.signature(Round).parameters
        self.assertEqual(list(told), ["melody", "voices", "clashing"])
        self.assertEqual(told["voices"].kind, inspect.Parameter.VAR_POSITIONAL)
        self.assertEqual(told["clashing"].kind, inspect.Parameter.KEYWORD_ONLY)
        self.assertEqual(told["clashing"].default, CLASHING)

    def test_making_a_melody(self):
        told = inspect.signature(Melody).parameters
        self.assertEqual([told[name].kind for name in told], [inspect.Parameter.VAR_POSITIONAL])

    def test_methods_take_keywords(self):
        sung = Round(Melody((60, 1)), (0, 0), (0, 1), clashing=(1,))
        self.assertEqual(sung.chord(beat=2), [60, 61])
        self.assertEqual(list(sung.clashes(first=1, last=1)), [(1, 0, 1)])
        self.assertEqual(sung.count_clashes(beats=3), 3)
        self.assertEqual(sung.nth_clash(number=3), 2)
        self.assertIsNone(sung.first_difference(other=sung))
        self.assertEqual(Melody.parse(text="60/1"), Melody((60, 1)))


if __name__ == "__main__":
    unittest.main()

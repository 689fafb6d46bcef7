"""The names, arguments and places that the document's interface lists."""

import inspect
import unittest

from canonvoices import codec, planning
from canonvoices.choir import Choir
from canonvoices.listening import Listener
from canonvoices.melodies import Melody
from canonvoices.rounds import Round

CLASHING = (1, 2, 6, 10, 11)

PROPERTIES = (
    (Melody, "notes pitches text"),
    (Round, "voices clashing"),
    (Listener, "delays history"),
    (Choir, "passed singers clash_count operations"),
)

# The arguments of each method, without the object itself.
METHODS = (
    (Round, "chord", "beat"),
    (Round, "clashes", "first last"),
    (Round, "first_clash", ""),
    (Round, "count_clashes", "beats"),
    (Round, "nth_clash", "number"),
    (Round, "first_difference", "other"),
    (Listener, "hear", "beat pitches"),
    (Listener, "hear_all", "chords"),
    (Listener, "best_beat", "limit"),
    (Choir, "enter", "shift"),
    (Choir, "leave", "number"),
    (Choir, "sing", "beats"),
    (Choir, "undo", ""),
    (Choir, "redo", ""),
    (Choir, "save", "name"),
    (Choir, "restore", "name"),
    (Choir, "batch", "operations"),
)

FUNCTIONS = (
    (planning, "good_delays", "melody shift clashing"),
    (planning, "most_voices", "melody clashing"),
    (planning, "fewest_rests", "melody delay shift clashing"),
    (codec, "encode", "melody"),
    (codec, "decode", "code"),
)


def parameters(call):
    """Return the parameters of a function, a method or a class."""
    return inspect.signature(call).parameters


class Interface(unittest.TestCase):
    def test_classes_are_defined_in_their_files(self):
        self.assertEqual(Melody.__module__, "canonvoices.melodies")
        self.assertEqual(Round.__module__, "canonvoices.rounds")
        self.assertEqual(Listener.__module__, "canonvoices.listening")
        self.assertEqual(Choir.__module__, "canonvoices.choir")

    def test_functions(self):
        for module, name, arguments in FUNCTIONS:
            with self.subTest(name):
                function = getattr(module, name)
                self.assertEqual(function.__module__, module.__name__)
                told = parameters(function)
                self.assertEqual(list(told), arguments.split())
                if "clashing" in told:
                    self.assertEqual(told["clashing"].default, CLASHING)

    def test_properties(self):
        for owner, names in PROPERTIES:
            for name in names.split():
                with self.subTest(name):
                    self.assertIsInstance(vars(owner)[name], property)
                    self.assertIsNone(vars(owner)[name].fset)

    def test_methods(self):
        for owner, name, arguments in METHODS:
            with self.subTest(name):
                self.assertIn(name, vars(owner))
                self.assertEqual(list(parameters(getattr(owner, name))), ["self", *arguments.split()])

    def test_separate_arguments(self):
        for name, argument in (("hear", "pitches"), ("hear_all", "chords")):
            kind = parameters(getattr(Listener, name))[argument].kind
            self.assertEqual(kind, inspect.Parameter.VAR_POSITIONAL)

    def test_class_methods(self):
        self.assertIsInstance(vars(Melody)["parse"], classmethod)
        self.assertEqual(list(parameters(Melody.parse)), ["text"])
        self.assertIsInstance(vars(Choir)["replay"], classmethod)
        self.assertEqual(list(parameters(Choir.replay)), ["melody", "operations"])

    def test_clashes_is_a_generator(self):
        self.assertTrue(inspect.isgeneratorfunction(Round.clashes))

    def test_making_a_round(self):
        told = parameters(Round)
        self.assertEqual(list(told), ["melody", "voices", "clashing"])
        self.assertEqual(told["voices"].kind, inspect.Parameter.VAR_POSITIONAL)
        self.assertEqual(told["clashing"].kind, inspect.Parameter.KEYWORD_ONLY)
        self.assertEqual(told["clashing"].default, CLASHING)

    def test_making_a_melody(self):
        told = parameters(Melody)
        self.assertEqual([told[name].kind for name in told], [inspect.Parameter.VAR_POSITIONAL])

    def test_making_a_listener(self):
        self.assertEqual(list(parameters(Listener)), ["melody", "shift", "limit"])

    def test_making_a_choir(self):
        told = parameters(Choir)
        self.assertEqual(list(told), ["melody", "clashing"])
        self.assertEqual(told["clashing"].kind, inspect.Parameter.KEYWORD_ONLY)
        self.assertEqual(told["clashing"].default, CLASHING)

    def test_keywords_of_melodies_and_rounds(self):
        sung = Round(Melody((60, 1)), (0, 0), (0, 1), clashing=(1,))
        self.assertEqual(sung.chord(beat=2), [60, 61])
        self.assertEqual(list(sung.clashes(first=1, last=1)), [(1, 0, 1)])
        self.assertEqual(sung.count_clashes(beats=3), 3)
        self.assertEqual(sung.nth_clash(number=3), 2)
        self.assertIsNone(sung.first_difference(other=sung))
        self.assertEqual(Melody.parse(text="60/1"), Melody((60, 1)))

    def test_keywords_of_functions(self):
        melody = Melody((60, 1))
        self.assertEqual(planning.good_delays(melody=melody, shift=0, clashing=(0,)), [])
        self.assertEqual(planning.most_voices(melody=melody, clashing=(0,)), (1, [0]))
        numbers, _ = planning.fewest_rests(melody=melody, delay=0, shift=0, clashing=(0,))
        self.assertEqual(numbers, [0])
        self.assertEqual(codec.decode(code=codec.encode(melody=melody)), melody)

    def test_keywords_of_listeners_and_choirs(self):
        melody = Melody((60, 1))
        listener = Listener(melody=melody, shift=0, limit=3)
        self.assertEqual(listener.best_beat(limit=0), 0)
        choir = Choir(melody=melody, clashing=(1,))
        self.assertEqual([choir.enter(shift=0), choir.sing(beats=1), choir.leave(number=0)], [0, 0, 1])
        choir.save(name="a")
        choir.restore(name="a")
        self.assertEqual(choir.batch(operations=[("undo",)]), [True])
        self.assertEqual(Choir.replay(melody=melody, operations=[("sing", 1)]).passed, 1)


if __name__ == "__main__":
    unittest.main()

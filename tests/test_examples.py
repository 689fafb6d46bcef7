"""The examples of the document's interface."""

import unittest

from canonvoices.errors import InvalidMelody, OutOfRange, TextFault
from canonvoices.melodies import Melody
from canonvoices.rounds import Round


class MelodyExamples(unittest.TestCase):
    def setUp(self):
        self.melody = Melody((60, 2), (None, 1), (64, 1))

    def test_parts(self):
        melody = self.melody
        self.assertEqual(
            [len(melody), melody[2], melody(6), melody(7), 64 in melody, melody.pitches],
            [4, (64, 1), None, 64, True, (60, 64)],
        )

    def test_invalid_melody(self):
        with self.assertRaises(InvalidMelody) as caught:
            Melody((60, 2), (60, 17))
        self.assertEqual(caught.exception.index, 1)

    def test_signs(self):
        melody = self.melody
        self.assertEqual(
            [(~melody).text, (melody >> 2).text, (-melody).text, melody + melody == melody * 2],
            ["64/1 -/1 60/2", "62/2 -/1 66/1", "60/2 -/1 56/1", True],
        )

    def test_out_of_range(self):
        with self.assertRaises(OutOfRange):
            self.melody >> 64

    def test_parse(self):
        self.assertEqual(Melody.parse("60/2 -/1").notes, ((60, 2), (None, 1)))

    def test_text_fault(self):
        with self.assertRaises(TextFault) as caught:
            Melody.parse("60/2 x/1")
        self.assertEqual(caught.exception.word, 1)


class RoundExamples(unittest.TestCase):
    def setUp(self):
        self.melody = Melody((60, 2), (None, 1), (64, 1))
        self.sung = Round(self.melody, (0, 0), (1, 1))

    def test_chord(self):
        self.assertEqual([self.sung.chord(0), self.sung.chord(1)], [[60, None], [60, 61]])

    def test_clashes(self):
        self.assertEqual(list(self.sung.clashes(0, 5)), [(1, 0, 1), (5, 0, 1)])

    def test_first_clash(self):
        self.assertEqual(self.sung.first_clash(), (1, 0, 1))

    def test_count_clashes(self):
        self.assertEqual(self.sung.count_clashes(10), 3)

    def test_nth_clash(self):
        self.assertEqual(self.sung.nth_clash(3), 9)

    def test_first_difference(self):
        self.assertEqual(self.sung.first_difference(Round(self.melody, (0, 0))), 1)


if __name__ == "__main__":
    unittest.main()

"""Rounds: their voices and their clashing intervals (point 5)."""

import unittest

from canonvoices.errors import InvalidRound, OutOfRange
from canonvoices.melodies import Melody
from canonvoices.rounds import Round

import plain

MELODY = Melody((60, 2), (None, 1), (64, 1))


class Parts(unittest.TestCase):
    def assert_invalid(self, part, index, *voices, melody=MELODY, **more):
        with self.subTest(voices=voices, more=more), self.assertRaises(InvalidRound) as caught:
            Round(melody, *voices, **more)
        self.assertEqual((caught.exception.part, caught.exception.index), (part, index))

    def test_properties(self):
        sung = Round(MELODY, (0, 0), (3, -2), (3, -2), clashing=(0, 5, 11))
        self.assertEqual(sung.voices, ((0, 0), (3, -2), (3, -2)))
        self.assertEqual(sung.clashing, (0, 5, 11))
        self.assertIsInstance(sung.voices, tuple)

    def test_default(self):
        sung = Round(MELODY, (7, 0))
        self.assertEqual((sung.voices, sung.clashing), (((7, 0),), (1, 2, 6, 10, 11)))

    def test_numbers_of_voices(self):
        voices = tuple((delay, 0) for delay in range(8))
        self.assertEqual(Round(MELODY, *voices).voices, voices)
        self.assert_invalid("voices", 8, *voices, (8, 0))
        self.assert_invalid("voices", 8, *voices, (8, 0), (9, 0))
        self.assert_invalid("voices", 0)

    def test_delays(self):
        for delay in (0, 1, 999, 1000):
            self.assertEqual(Round(MELODY, (delay, 0)).voices, ((delay, 0),))
        for delay in (-1, 1001, 10 ** 30, *plain.NO_NUMBERS):
            self.assert_invalid("voices", 0, (delay, 0))

    def test_shifts(self):
        for shift in (-24, -23, 0, 23, 24):
            self.assertEqual(Round(MELODY, (0, shift)).voices, ((0, shift),))
        for shift in (-25, 25, 10 ** 30, *plain.NO_NUMBERS):
            self.assert_invalid("voices", 0, (0, shift))

    def test_a_voice_is_a_tuple_of_two(self):
        for voice in plain.NO_TUPLES + ((), (0,), (0, 0, 0), [0, 0]):
            self.assert_invalid("voices", 0, voice)
            self.assert_invalid("voices", 1, (0, 0), voice, (-1, 0))

    def test_the_first_invalid_voice_is_told(self):
        good = [(0, 0)] * 7
        self.assert_invalid("voices", 2, (0, 0), (1000, 24), (0, 25), (-1, 0))
        self.assert_invalid("voices", 7, *good, (1001, 0), (0, 0))
        self.assert_invalid("voices", 0, (0, -25), *good, (0, 0))
        self.assert_invalid("voices", 8, *good, (0, 0), (0, 25))

    def test_clashing(self):
        for clashing in ((), (0,), (11,), (0, 11), tuple(range(12)), (1, 2)):
            self.assertEqual(Round(MELODY, (0, 0), clashing=clashing).clashing, clashing)

    def test_clashing_is_a_tuple(self):
        for clashing in plain.NO_TUPLES:
            self.assert_invalid("clashing", 0, (0, 0), clashing=clashing)

    def test_clashing_holds_intervals(self):
        for interval in (-1, 12, 10 ** 30, *plain.NO_NUMBERS):
            self.assert_invalid("clashing", 0, (0, 0), clashing=(interval,))
            self.assert_invalid("clashing", 1, (0, 0), clashing=(0, interval))
            self.assert_invalid("clashing", 2, (0, 0), clashing=(0, 10, interval, 11))

    def test_clashing_ascends(self):
        self.assert_invalid("clashing", 1, (0, 0), clashing=(1, 1))
        self.assert_invalid("clashing", 1, (0, 0), clashing=(0, 0))
        self.assert_invalid("clashing", 1, (0, 0), clashing=(2, 1, 12))
        self.assert_invalid("clashing", 2, (0, 0), clashing=(1, 5, 4, 6))
        self.assert_invalid("clashing", 3, (0, 0), clashing=(1, 5, 11, 11))
        self.assert_invalid("clashing", 12, (0, 0), clashing=tuple(range(13)))

    def test_shifted_pitches(self):
        low = Melody((None, 1), (24, 1), (50, 1))
        high = Melody((60, 1), (103, 1))
        self.assertEqual(Round(low, (0, -24)).chord(1), [0])
        self.assertEqual(Round(high, (0, 24)).chord(1), [127])
        with self.assertRaises(OutOfRange):
            Round(low >> -1, (0, 0), (0, -24))
        with self.assertRaises(OutOfRange):
            Round(high >> 1, (5, 24), (0, 0))

    def test_rests_can_be_shifted(self):
        self.assertEqual(Round(Melody((None, 2)), (0, 24), (0, -24)).chord(1), [None, None])

    def test_voices_before_clashing_before_shifted_pitches(self):
        high = Melody((127, 1))
        self.assert_invalid("voices", 0, (0, 25), melody=high, clashing=(12,))
        self.assert_invalid("voices", 0, melody=high, clashing=None)
        self.assert_invalid("voices", 1, (0, 1), (-1, 0), melody=high)
        self.assert_invalid("clashing", 0, (0, 1), melody=high, clashing=(12,))
        self.assert_invalid("clashing", 0, (0, 1), melody=high, clashing=[1])


if __name__ == "__main__":
    unittest.main()

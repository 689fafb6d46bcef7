"""Melodies: their notes and their signs (points 1 to 3)."""

import copy
import unittest

from canonvoices.errors import InvalidMelody, InvalidNumber, OutOfRange
from canonvoices.melodies import Melody

import plain

LAST = 10 ** 18


class Notes(unittest.TestCase):
    def assert_invalid(self, index, *notes):
        with self.subTest(notes=notes), self.assertRaises(InvalidMelody) as caught:
            Melody(*notes)
        self.assertEqual(caught.exception.index, index)

    def test_numbers_of_notes(self):
        self.assertEqual(Melody((60, 1)).notes, ((60, 1),))
        self.assertEqual(Melody(*[(60, 1)] * 32).notes, ((60, 1),) * 32)
        self.assert_invalid(32, *[(60, 1)] * 33)
        self.assert_invalid(32, *[(60, 1)] * 40)
        self.assert_invalid(0)

    def test_an_invalid_note_before_the_33rd_is_told(self):
        self.assert_invalid(31, *[(60, 1)] * 31, (60, 0), (60, 1))
        self.assert_invalid(0, (60, 0), *[(60, 1)] * 32)
        self.assert_invalid(32, *[(60, 1)] * 32, (60, 0))

    def test_pitches(self):
        for pitch in (0, 1, 60, 126, 127, None):
            self.assertEqual(Melody((pitch, 1)).notes, ((pitch, 1),))
        for pitch in (-1, 128, 10 ** 30, True, False, "60", "", (60,), (), [60], []):
            self.assert_invalid(0, (pitch, 1))

    def test_beats(self):
        for beats in (1, 2, 15, 16):
            self.assertEqual(Melody((60, beats)).notes, ((60, beats),))
        for beats in (0, 17, -1, 10 ** 30, *plain.NO_NUMBERS):
            self.assert_invalid(0, (60, beats))
            self.assert_invalid(0, (None, beats))

    def test_a_note_is_a_tuple_of_two(self):
        for note in plain.NO_TUPLES + ((), (60,), (60, 1, 1), (60, 1, None)):
            self.assert_invalid(0, note)
            self.assert_invalid(1, (60, 1), note, (60, 0))

    def test_the_first_invalid_note_is_told(self):
        self.assert_invalid(1, (60, 2), (60, 17), (128, 1))
        self.assert_invalid(2, (60, 2), (None, 16), (128, 1), (60, 17))

    def test_notes_keep_order_and_repetitions(self):
        notes = ((64, 2), (60, 1), (None, 3), (64, 2), (None, 3))
        melody = Melody(*notes)
        self.assertEqual(melody.notes, notes)
        self.assertIsInstance(melody.notes, tuple)

    def test_different_pitches_ascend(self):
        melody = Melody((64, 2), (60, 1), (None, 3), (127, 1), (64, 1), (0, 1), (60, 9))
        self.assertEqual(melody.pitches, (0, 60, 64, 127))
        self.assertEqual(Melody((None, 1), (None, 2)).pitches, ())
        notes = [(pitch, 1) for pitch in range(127, 95, -1)]
        self.assertEqual(Melody(*notes).pitches, tuple(range(96, 128)))

    def test_class_values(self):
        limits = (Melody.MAX_NOTES, Melody.MAX_BEATS, Melody.MAX_PITCH)
        self.assertEqual(limits, (32, 16, 127))
        self.assertEqual(Melody((60, 1)).MAX_NOTES, 32)

    def test_a_wrong_argument_is_not_modified(self):
        note = [60, [1]]
        kept = copy.deepcopy(note)
        with self.assertRaises(InvalidMelody):
            Melody(note)
        self.assertEqual(note, kept)


class Reading(unittest.TestCase):
    def setUp(self):
        self.notes = ((60, 2), (None, 1), (64, 3), (0, 1), (127, 16))
        self.melody = Melody(*self.notes)

    def test_length_counts_beats(self):
        self.assertEqual(len(self.melody), 23)
        self.assertEqual(len(Melody((None, 1))), 1)
        self.assertEqual(len(Melody(*[(60, 16)] * 32)), 512)

    def test_note_with_a_number(self):
        self.assertEqual([self.melody[number] for number in range(5)], list(self.notes))
        self.assertEqual(self.melody[1], (None, 1))

    def test_wrong_numbers_of_notes(self):
        for number in (-1, 5, 6, 23, LAST, -5, *plain.NO_NUMBERS):
            with self.subTest(number=number), self.assertRaises(InvalidNumber):
                self.melody[number]

    def test_single_note(self):
        melody = Melody((60, 4))
        self.assertEqual(melody[0], (60, 4))
        with self.assertRaises(InvalidNumber):
            melody[1]
        with self.assertRaises(InvalidNumber):
            melody[False]

    def test_pitch_in_a_beat(self):
        sounding = plain.line(self.notes)
        for beat in range(100):
            self.assertEqual(self.melody(beat), sounding[beat % 23])

    def test_pitch_in_a_late_beat(self):
        sounding = plain.line(self.notes)
        for beat in range(LAST - 50, LAST + 1):
            self.assertEqual(self.melody(beat), sounding[beat % 23])

    def test_wrong_beats(self):
        for beat in (-1, LAST + 1, 10 ** 5000, -LAST, *plain.NO_NUMBERS):
            with self.assertRaises(InvalidNumber):
                self.melody(beat)

    def test_contains(self):
        for pitch in range(128):
            self.assertIs(pitch in self.melody, pitch in (0, 60, 64, 127))
        self.assertNotIn(0, Melody((None, 2), (1, 1)))

    def test_contains_only_pitches(self):
        melody = Melody((0, 1), (1, 1), (None, 1), (127, 1))
        for value in (-1, 128, LAST, 1.0, {}, (0, 1), *plain.NO_NUMBERS):
            with self.subTest(value=value):
                self.assertIs(value in melody, False)

    def test_truth(self):
        self.assertIs(bool(Melody((None, 1))), False)
        self.assertIs(bool(Melody((None, 16), (None, 3))), False)
        self.assertIs(bool(Melody((0, 1))), True)
        self.assertIs(bool(Melody((None, 1), (None, 1), (60, 1))), True)

    def test_equal(self):
        self.assertTrue(self.melody == Melody(*self.notes))
        self.assertFalse(self.melody != Melody(*self.notes))

    def test_not_equal(self):
        others = (
            Melody(*self.notes[:-1]),
            Melody(*self.notes[::-1]),
            Melody((60, 1), (60, 1), *self.notes[1:]),
            Melody((61, 2), *self.notes[1:]),
            Melody((60, 3), *self.notes[1:]),
        )
        for other in others:
            with self.subTest(other=other.notes):
                self.assertFalse(self.melody == other)
                self.assertTrue(self.melody != other)

    def test_equals_nothing_else(self):
        others = (self.notes, list(self.notes), self.melody.text, 23, object(), *plain.NO_NUMBERS)
        for other in others:
            with self.subTest(other=other):
                self.assertIs(self.melody == other, False)
                self.assertIs(other == self.melody, False)
                self.assertIs(self.melody != other, True)

    def test_is_not_walked(self):
        melody = Melody((60, 1), (64, 1))
        with self.assertRaises(TypeError):
            iter(melody)
        with self.assertRaises(TypeError):
            list(melody)
        with self.assertRaises(TypeError):
            for note in melody:
                self.fail(note)
        with self.assertRaises(TypeError):
            first, second = melody

    def test_repeated_reading_gives_the_same(self):
        for _ in range(2):
            self.assertEqual(self.melody(3), 64)
            self.assertEqual(self.melody.pitches, (0, 60, 64, 127))
            self.assertEqual(self.melody.notes, self.notes)


class Joining(unittest.TestCase):
    def assert_too_many(self, make):
        with self.assertRaises(InvalidMelody) as caught:
            make()
        self.assertEqual(caught.exception.index, 32)

    def test_sum(self):
        one = Melody((60, 2), (None, 1))
        other = Melody((64, 1))
        self.assertEqual((one + other).notes, ((60, 2), (None, 1), (64, 1)))
        self.assertEqual((other + one).notes, ((64, 1), (60, 2), (None, 1)))
        self.assertEqual((one.notes, other.notes), (((60, 2), (None, 1)), ((64, 1),)))

    def test_greatest_sum(self):
        notes = [(pitch, 1) for pitch in range(32)]
        joined = Melody(*notes[:20]) + Melody(*notes[20:])
        self.assertEqual(joined.notes, tuple(notes))
        self.assert_too_many(lambda: joined + Melody((60, 1)))
        self.assert_too_many(lambda: Melody((60, 1)) + joined)
        self.assert_too_many(lambda: joined + joined)

    def test_sum_with_anything_else(self):
        for other in (60, ((60, 1),), "60/1", [], None, True):
            with self.subTest(other=other):
                self.assert_too_many(lambda: Melody((60, 1)) + other)

    def test_in_place_signs_leave_the_melody(self):
        melody = kept = Melody((60, 1))
        melody += Melody((64, 1))
        melody *= 2
        self.assertEqual(kept.notes, ((60, 1),))
        self.assertEqual(melody.notes, ((60, 1), (64, 1), (60, 1), (64, 1)))

    def test_product(self):
        melody = Melody((60, 2), (None, 1), (64, 1))
        for times in range(1, 11):
            self.assertEqual((melody * times).notes, melody.notes * times)
        self.assertEqual((Melody((60, 1)) * 32).notes, ((60, 1),) * 32)
        self.assertEqual((Melody(*[(60, 1)] * 32) * 1).notes, ((60, 1),) * 32)

    def test_product_with_too_many_notes(self):
        self.assert_too_many(lambda: Melody((60, 2), (None, 1), (64, 1)) * 11)
        self.assert_too_many(lambda: Melody((60, 2), (64, 1)) * 17)
        self.assert_too_many(lambda: Melody(*[(60, 1)] * 32) * 32)

    def test_wrong_products(self):
        for times in (0, 33, -1, LAST, Melody((60, 1)), *plain.NO_NUMBERS):
            with self.subTest(times=times), self.assertRaises(InvalidNumber):
                Melody((60, 1)) * times

    def test_the_number_is_told_before_the_notes(self):
        with self.assertRaises(InvalidNumber):
            Melody((60, 2), (64, 1)) * 33


class Turning(unittest.TestCase):
    def test_reverse(self):
        melody = Melody((60, 2), (None, 1), (64, 3))
        self.assertEqual((~melody).notes, ((64, 3), (None, 1), (60, 2)))
        self.assertEqual(~~melody, melody)
        self.assertEqual(~Melody((None, 4)), Melody((None, 4)))
        self.assertEqual(melody.notes, ((60, 2), (None, 1), (64, 3)))

    def test_shift(self):
        melody = Melody((60, 2), (None, 1), (64, 3))
        self.assertEqual((melody >> 0).notes, melody.notes)
        self.assertEqual((melody >> 63).notes, ((123, 2), (None, 1), (127, 3)))
        self.assertEqual((melody >> -60).notes, ((0, 2), (None, 1), (4, 3)))
        self.assertEqual((Melody((0, 1)) >> 127).notes, ((127, 1),))
        self.assertEqual((Melody((127, 1)) >> -127).notes, ((0, 1),))
        self.assertEqual(melody.notes, ((60, 2), (None, 1), (64, 3)))

    def test_shift_out_of_range(self):
        melody = Melody((60, 2), (None, 1), (64, 3))
        for steps in (64, 127, -61, -127):
            with self.subTest(steps=steps), self.assertRaises(OutOfRange):
                melody >> steps
        with self.assertRaises(OutOfRange):
            Melody((127, 1)) >> 1
        with self.assertRaises(OutOfRange):
            Melody((5, 1), (0, 1)) >> -1

    def test_wrong_shifts(self):
        for steps in (-128, 128, LAST, -LAST, *plain.NO_NUMBERS):
            for melody in (Melody((60, 1)), Melody((None, 1))):
                with self.subTest(steps=steps), self.assertRaises(InvalidNumber):
                    melody >> steps

    def test_rests_are_shifted_by_anything(self):
        melody = Melody((None, 1), (None, 2))
        for steps in (-127, -1, 0, 1, 127):
            self.assertEqual(melody >> steps, melody)

    def test_mirror(self):
        melody = Melody((60, 2), (64, 1), (None, 3), (55, 1), (60, 1))
        self.assertEqual((-melody).notes, ((60, 2), (56, 1), (None, 3), (65, 1), (60, 1)))
        self.assertEqual(-(-melody), melody)
        self.assertEqual(melody.notes[1], (64, 1))

    def test_mirror_with_rests_before_the_first_pitch(self):
        melody = Melody((None, 2), (None, 1), (10, 1), (20, 2), (0, 3))
        self.assertEqual((-melody).notes, ((None, 2), (None, 1), (10, 1), (0, 2), (20, 3)))

    def test_mirror_around_the_lowest_pitch(self):
        self.assertEqual((-Melody((0, 1))).notes, ((0, 1),))
        with self.assertRaises(OutOfRange):
            -Melody((0, 1), (1, 1))

    def test_mirror_without_pitches(self):
        melody = Melody((None, 2), (None, 1))
        self.assertEqual((-melody).notes, ((None, 2), (None, 1)))

    def test_mirror_at_the_ends(self):
        self.assertEqual((-Melody((63, 1), (126, 1))).notes, ((63, 1), (0, 1)))
        self.assertEqual((-Melody((64, 1), (1, 1))).notes, ((64, 1), (127, 1)))
        with self.assertRaises(OutOfRange):
            -Melody((63, 1), (127, 1))
        with self.assertRaises(OutOfRange):
            -Melody((64, 1), (0, 1))


if __name__ == "__main__":
    unittest.main()

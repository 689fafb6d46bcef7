"""Bytes of melodies (points 1 and 9)."""

import random
import unittest

from canonvoices.codec import decode, encode
from canonvoices.errors import InvalidCode
from canonvoices.melodies import Melody

import plain

# Notes of melodies, and their bytes, counted by hand.
CODES = (
    (((60, 2), (None, 1), (64, 1)), [67, 3, 60, 2, 128, 1, 64, 1, 70]),
    (((0, 1),), [67, 1, 0, 1, 69]),
    (((127, 16),), [67, 1, 127, 16, 211]),
    (((None, 16),), [67, 1, 128, 16, 212]),
    (((None, 1), (1, 10)), [67, 2, 128, 1, 1, 10, 209]),
    # 67 + 2 + 127 + 16 + 127 + 16 is 355, which is 99 more than 256.
    (((127, 16), (127, 16)), [67, 2, 127, 16, 127, 16, 99]),
    # 67 + 2 + 127 + 16 + 28 + 16 is 256.
    (((127, 16), (28, 16)), [67, 2, 127, 16, 28, 16, 0]),
    # 67 + 2 + 127 + 16 + 27 + 16 is 255.
    (((127, 16), (27, 16)), [67, 2, 127, 16, 27, 16, 255]),
    # 67 + 32 + 32 * 144 is 4707, which is 99 more than 18 * 256.
    (((None, 16),) * 32, [67, 32] + [128, 16] * 32 + [99]),
)

GOOD = [67, 3, 60, 2, 128, 1, 64, 1, 70]

# The least and the greatest byte at each place of the bytes above.
RANGES = ((67, 67), (1, 32), (0, 128), (1, 16), (0, 128), (1, 16), (0, 128), (1, 16), (70, 70))


class Encode(unittest.TestCase):
    def test_counted_by_hand(self):
        for notes, code in CODES:
            with self.subTest(notes=notes):
                self.assertEqual(encode(Melody(*notes)), code)

    def test_lists_are_new(self):
        melody = Melody((60, 1))
        encode(melody).clear()
        self.assertEqual(encode(melody), [67, 1, 60, 1, 129])


class Decode(unittest.TestCase):
    def assert_invalid(self, place, code):
        with self.subTest(code=code), self.assertRaises(InvalidCode) as caught:
            decode(code)
        self.assertEqual(caught.exception.place, place)

    def changed(self, place, value):
        """Return good bytes with another value at a place, and the checksum that fits it."""
        code = list(GOOD)
        code[place] = value
        if place < 8 and plain.is_integer(value):
            code[8] = sum(code[:8]) % 256
        return code

    def test_counted_by_hand(self):
        for notes, code in CODES:
            with self.subTest(code=code):
                self.assertEqual(decode(code).notes, notes)

    def test_random_melodies(self):
        rng = random.Random(3)
        for _ in range(300):
            notes = [(rng.choice((None, rng.randint(0, 127))), rng.randint(1, 16))
                     for _ in range(rng.randint(1, 32))]
            code = encode(Melody(*notes))
            self.assertEqual(code[-1], sum(code[:-1]) % 256)
            self.assertEqual(list(decode(code).notes), notes)

    def test_one_byte_missing_at_the_end(self):
        for _, code in CODES:
            for many in range(len(code)):
                self.assert_invalid(many, code[:many])

    def test_one_byte_missing_before_the_end(self):
        self.assert_invalid(0, GOOD[1:])
        # 60 notes are too many.
        self.assert_invalid(1, [67, 60, 2, 128, 1, 64, 1, 70])
        # From there on, a pitch stands for beats.
        self.assert_invalid(3, [67, 3, 2, 128, 1, 64, 1, 70])
        self.assert_invalid(3, [67, 3, 60, 128, 1, 64, 1, 70])
        self.assert_invalid(5, [67, 3, 60, 2, 1, 64, 1, 70])
        self.assert_invalid(5, [67, 3, 60, 2, 128, 64, 1, 70])
        self.assert_invalid(7, [67, 3, 60, 2, 128, 1, 1, 70])
        self.assert_invalid(7, [67, 3, 60, 2, 128, 1, 64, 70])

    def test_superfluous_bytes(self):
        for _, code in CODES:
            self.assert_invalid(len(code), code + [0])
            self.assert_invalid(len(code), code + [None, 300])
            self.assert_invalid(len(code), code + code)

    def test_not_an_integer(self):
        for place in range(len(GOOD)):
            for wrong in plain.NO_NUMBERS:
                self.assert_invalid(place, self.changed(place, wrong))

    def test_true_in_place_of_one(self):
        code = [67, 1, 0, 1, 69]
        self.assert_invalid(1, [67, True, 0, 1, 69])
        self.assert_invalid(2, [67, 1, False, 1, 69])
        self.assert_invalid(3, [67, 1, 0, True, 69])
        self.assertEqual(decode(code).notes, ((0, 1),))
        # 67 + 2 + 127 + 16 + 29 + 16 is 257.
        self.assertEqual(decode([67, 2, 127, 16, 29, 16, 1]).notes, ((127, 16), (29, 16)))
        self.assert_invalid(6, [67, 2, 127, 16, 29, 16, True])
        self.assert_invalid(6, [67, 2, 127, 16, 28, 16, False])

    def test_out_of_range(self):
        for place, (low, high) in enumerate(RANGES):
            for wrong in (low - 1, high + 1, -1, 256, 10 ** 30):
                self.assert_invalid(place, self.changed(place, wrong))

    def test_in_range(self):
        for place in range(2, 8):
            for value in RANGES[place]:
                notes = list(decode(self.changed(place, value)).notes)
                pitch = None if value == 128 else value
                expected = [(60, 2), (None, 1), (64, 1)]
                number = (place - 2) // 2
                kept = expected[number]
                expected[number] = (kept[0], value) if place % 2 else (pitch, kept[1])
                self.assertEqual(notes, expected)

    def test_checksum(self):
        for wrong in (0, 69, 71, 70 + 256, 70 - 256, 255):
            self.assert_invalid(8, GOOD[:8] + [wrong])

    def test_numbers_of_notes(self):
        self.assert_invalid(1, [67, 0, 67])
        self.assert_invalid(1, [67, 33] + [128, 16] * 33 + [0])
        self.assert_invalid(8, [67, 4, 60, 2, 128, 1, 64, 1])
        self.assert_invalid(9, [67, 4, 60, 2, 128, 1, 64, 1, 70])
        self.assert_invalid(6, [67, 2, 60, 2, 128, 1, 64, 1, 70])

    def test_the_first_wrong_byte_is_told(self):
        self.assert_invalid(0, [66, 0])
        self.assert_invalid(2, [67, 3, 129, 17, 60])
        self.assert_invalid(3, [67, 1, 60, 0])
        self.assert_invalid(8, GOOD[:8] + [71, 0])

    def test_no_list(self):
        for code in (True, False, None, 0, 67, "", "67", (), tuple(GOOD)):
            self.assert_invalid(0, code)

    def test_lists_are_not_modified(self):
        for code in (list(GOOD), GOOD + [1], GOOD[:5]):
            kept = list(code)
            try:
                decode(code)
            except InvalidCode:
                pass
            self.assertEqual(code, kept)


if __name__ == "__main__":
    unittest.main()

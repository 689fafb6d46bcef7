"""Melodies as texts (point 4)."""

import unittest

from canonvoices.errors import InvalidMelody, TextFault
from canonvoices.melodies import Melody

import plain

BAD_WORDS = (
    "",
    "-",
    "/",
    "x",
    "60",
    "60/",
    "/2",
    "-/",
    "--/1",
    "-1/1",
    "+1/1",
    "60/-",
    "60/-1",
    "60/+1",
    "060/2",
    "00/2",
    "000/2",
    "60/02",
    "60/00",
    "-/01",
    "1000/2",
    "0060/2",
    "60/100",
    "-/123",
    "60//2",
    "60/2/",
    "60/2/3",
    "/60/2",
    "60-2",
    "x/1",
    "60/x",
    "6x/1",
    "60/1x",
    "6_0/1",
    "None/1",
)


class Texts(unittest.TestCase):
    def assert_fault(self, word, text):
        with self.subTest(text=text), self.assertRaises(TextFault) as caught:
            Melody.parse(text)
        self.assertEqual(caught.exception.word, word)

    def assert_invalid(self, index, text):
        with self.subTest(text=text), self.assertRaises(InvalidMelody) as caught:
            Melody.parse(text)
        self.assertEqual(caught.exception.index, index)

    def test_text(self):
        melody = Melody((60, 2), (None, 1), (0, 16), (127, 10), (7, 9))
        self.assertEqual(melody.text, "60/2 -/1 0/16 127/10 7/9")
        self.assertEqual(Melody((None, 16)).text, "-/16")

    def test_parse(self):
        melody = Melody.parse("60/2 -/1 0/16 127/10 7/9")
        self.assertIsInstance(melody, Melody)
        self.assertEqual(melody.notes, ((60, 2), (None, 1), (0, 16), (127, 10), (7, 9)))

    def test_text_and_parse_of_each_other(self):
        for pitch in [None, *range(128)]:
            for beats in range(1, 17):
                melody = Melody((pitch, beats), (60, 1))
                text = melody.text
                self.assertEqual(Melody.parse(text), melody)
                self.assertEqual(Melody.parse(text).text, text)

    def test_longest_text(self):
        melody = Melody(*[(127, 16), (None, 16)] * 16)
        self.assertEqual(Melody.parse(melody.text), melody)

    def test_bad_words(self):
        for word in BAD_WORDS:
            self.assert_fault(0, word)
            self.assert_fault(1, f"60/2 {word}")
            self.assert_fault(0, f"{word} 60/2")
            self.assert_fault(2, f"-/2 60/1 {word} 60/2 x")

    def test_every_other_sign_is_bad(self):
        for code in range(32, 127):
            sign = chr(code)
            if not sign.isdigit():
                self.assert_fault(0, f"6{sign}/2")
                self.assert_fault(1, f"60/1 60/{sign}")

    def test_digits_of_other_scripts_are_bad(self):
        self.assert_fault(0, "\u0663/1")
        self.assert_fault(0, "6/\u00b2")

    def test_spaces(self):
        self.assert_fault(0, "")
        self.assert_fault(0, " ")
        self.assert_fault(1, "60/2  -/1")
        self.assert_fault(0, " 60/2")
        self.assert_fault(1, "60/2 ")
        self.assert_fault(2, "60/2 -/1 ")
        self.assert_fault(0, "60/2\n-/1")

    def test_out_of_range(self):
        self.assert_invalid(0, "128/1")
        self.assert_invalid(0, "999/1")
        self.assert_invalid(1, "127/1 128/1")
        self.assert_invalid(0, "60/0")
        self.assert_invalid(0, "-/0")
        self.assert_invalid(2, "60/1 60/16 60/17")
        self.assert_invalid(1, "60/1 -/99 60/17")

    def test_too_many_notes(self):
        self.assertEqual(len(Melody.parse(" ".join(["60/1"] * 32)).notes), 32)
        self.assert_invalid(32, " ".join(["60/1"] * 33))

    def test_words_are_told_before_notes(self):
        self.assert_fault(1, "128/1 x")
        self.assert_fault(2, "60/0 60/17 060/1")
        self.assert_fault(33, " ".join(["60/1"] * 33 + ["x"]))

    def test_what_is_no_text(self):
        for text in (None, True, False, 0, 60, (), ("60/1",), [], ["60/1"], plain.NO_TUPLES):
            self.assert_fault(0, text)


if __name__ == "__main__":
    unittest.main()

"""Rounds: what is sung and which voices clash (points 1 and 6)."""

import unittest

from canonvoices.errors import InvalidNumber
from canonvoices.melodies import Melody
from canonvoices.rounds import Round

import plain

LAST = 10 ** 18
DEFAULT = (1, 2, 6, 10, 11)

# Notes, voices and clashing intervals of rounds of several kinds.
ROUNDS = (
    (((60, 2), (None, 1), (64, 1)), ((0, 0), (1, 1)), DEFAULT),
    (((60, 2), (None, 1), (64, 1)), ((0, 0), (1, 0), (2, 0), (3, 0)), DEFAULT),
    (((60, 1),), ((0, 0), (5, 1), (9, 2)), (1,)),
    (((60, 1),), ((0, 0), (5, 12), (9, -24)), (0,)),
    (((60, 3), (62, 1), (None, 2), (67, 4), (55, 1)), ((4, 2), (0, -7), (11, 13)), DEFAULT),
    (((60, 3), (62, 1), (None, 2), (67, 4), (55, 1)), ((4, 2), (0, -7), (11, 13)), (3, 4, 9)),
    (((30, 1), (90, 2), (31, 3), (None, 1)), ((2, 0), (2, 0), (17, 24), (40, -24)), (0, 1, 5)),
    (((None, 1), (60, 1), (None, 7)), ((0, 0), (6, 0), (20, 1)), (1,)),
    (((None, 1), (60, 1), (None, 7)), ((0, 0), (9, 1), (19, 3), (21, 0)), (1, 2)),
    (((40, 2), (45, 1), (51, 1)), tuple((delay, delay - 3) for delay in range(8)), DEFAULT),
    (((40, 2), (45, 1), (51, 1)), tuple((7 * delay, 0) for delay in range(8)), ()),
    (((None, 3), (None, 1)), ((0, 0), (1, 24)), tuple(range(12))),
    (((60, 1), (66, 1)), ((3, 0),), tuple(range(12))),
)


def made(case):
    """Return the round of one of the cases."""
    notes, voices, clashing = case
    return Round(Melody(*notes), *voices, clashing=clashing)


def horizon(case):
    """Return a number of beats in which a case repeats itself at least twice."""
    notes, voices, _ = case
    return max(delay for delay, _ in voices) + 3 * len(plain.line(notes)) + 2


class Chords(unittest.TestCase):
    def test_each_beat(self):
        for case in ROUNDS:
            sung = made(case)
            for beat in range(horizon(case)):
                self.assertEqual(sung.chord(beat), plain.chord(case[0], case[1], beat))

    def test_late_beats(self):
        for case in ROUNDS:
            sung = made(case)
            for beat in range(LAST - 20, LAST + 1):
                self.assertEqual(sung.chord(beat), plain.chord(case[0], case[1], beat))

    def test_longest_delay(self):
        sung = Round(Melody((60, 1), (61, 1)), (1000, 2), (999, 0))
        self.assertEqual(sung.chord(998), [None, None])
        self.assertEqual(sung.chord(999), [None, 60])
        self.assertEqual(sung.chord(1000), [62, 61])
        self.assertEqual(sung.chord(1001), [63, 60])

    def test_wrong_beats(self):
        for beat in (-1, LAST + 1, *plain.NO_NUMBERS):
            with self.subTest(beat=beat), self.assertRaises(InvalidNumber):
                made(ROUNDS[0]).chord(beat)

    def test_lists_are_new(self):
        sung = made(ROUNDS[0])
        chord = sung.chord(1)
        chord.append(1)
        chord[0] = None
        self.assertEqual(sung.chord(1), [60, 61])
        self.assertEqual(sung.first_clash(), (1, 0, 1))


class Clashes(unittest.TestCase):
    def test_each_beat(self):
        for case in ROUNDS:
            last = horizon(case)
            expected = plain.clashes(*case, 0, last)
            self.assertEqual(list(made(case).clashes(0, last)), expected)

    def test_parts(self):
        for case in ROUNDS:
            sung = made(case)
            for first in range(0, horizon(case), 3):
                for last in range(first - 1, first + 9):
                    expected = plain.clashes(*case, first, last)
                    self.assertEqual(list(sung.clashes(first, last)), expected)

    def test_order(self):
        sung = Round(Melody((60, 1)), (1, 0), (0, 0), (0, 0), clashing=(0,))
        expected = [(0, 1, 2), (1, 0, 1), (1, 0, 2), (1, 1, 2)]
        self.assertEqual(list(sung.clashes(0, 1)), expected)

    def test_longest_span(self):
        sung = Round(Melody((60, 1), (None, 1)), (0, 0), (4, 0), clashing=(0,))
        expected = [(beat, 0, 1) for beat in range(10, 510, 2)]
        self.assertEqual(list(sung.clashes(10, 509)), expected)
        self.assertEqual(list(sung.clashes(10, 9)), [])
        self.assertEqual(list(sung.clashes(0, 499)), [(beat, 0, 1) for beat in range(4, 500, 2)])
        self.assertEqual(list(sung.clashes(0, -1)), [])

    def test_late_spans(self):
        for case in ROUNDS:
            expected = plain.clashes(*case, LAST - 30, LAST)
            self.assertEqual(list(made(case).clashes(LAST - 30, LAST)), expected)
        sung = Round(Melody((60, 1)), (0, 0), (0, 1))
        self.assertEqual(list(sung.clashes(LAST, LAST)), [(LAST, 0, 1)])
        self.assertEqual(list(sung.clashes(LAST, LAST - 1)), [])
        self.assertEqual(len(list(sung.clashes(LAST - 499, LAST))), 500)

    def test_wrong_spans(self):
        wrong = (
            (0, -2),
            (10, 8),
            (10, 510),
            (0, 500),
            (-1, -1),
            (-1, 5),
            (LAST, LAST - 2),
            (LAST, LAST + 1),
            (LAST - 498, LAST + 1),
            (LAST + 1, LAST),
            (LAST + 1, LAST + 1),
        )
        for first, last in wrong:
            with self.subTest(first=first, last=last), self.assertRaises(InvalidNumber):
                list(made(ROUNDS[0]).clashes(first, last))

    def test_wrong_kinds(self):
        for wrong in plain.NO_NUMBERS:
            with self.subTest(wrong=wrong), self.assertRaises(InvalidNumber):
                list(made(ROUNDS[0]).clashes(wrong, 1))
            with self.subTest(wrong=wrong), self.assertRaises(InvalidNumber):
                list(made(ROUNDS[0]).clashes(1, wrong))

    def test_repeated_calls(self):
        sung = made(ROUNDS[0])
        self.assertEqual(list(sung.clashes(0, 9)), list(sung.clashes(0, 9)))


class FirstClash(unittest.TestCase):
    def test_cases(self):
        for case in ROUNDS:
            expected = plain.clashes(*case, 0, horizon(case))
            self.assertEqual(made(case).first_clash(), expected[0] if expected else None)

    def test_smallest_pair(self):
        sung = Round(Melody((60, 1)), (4, 0), (2, 0), (2, 1), (0, 5))
        self.assertEqual(sung.first_clash(), (2, 1, 2))
        sung = Round(Melody((60, 1)), (4, 0), (2, 0), (2, 1), (2, 3), (0, 5), clashing=(1, 2, 3))
        self.assertEqual(list(sung.clashes(0, 2)), [(2, 1, 2), (2, 1, 3), (2, 2, 3), (2, 3, 4)])
        self.assertEqual(sung.first_clash(), (2, 1, 2))

    def test_last_beat_of_the_melody(self):
        notes = [(60, 16)] * 31 + [(60, 15), (61, 1)]
        melody = Melody(*notes[1:])
        self.assertEqual(len(melody), 496)
        sung = Round(melody, (0, 0), (1, 0))
        self.assertEqual(sung.first_clash(), (495, 0, 1))

    def test_late(self):
        melody = Melody(*[(None, 16)] * 31, (60, 1))
        self.assertEqual(Round(melody, (503, 1), (1000, 0)).first_clash(), (1496, 0, 1))
        self.assertEqual(Round(melody, (1000, 1), (503, 0)).first_clash(), (1496, 0, 1))
        self.assertIsNone(Round(melody, (504, 1), (1000, 0)).first_clash())

    def test_none(self):
        self.assertIsNone(Round(Melody((60, 4), (64, 4)), (0, 0), (1, 0), (1000, 12)).first_clash())
        self.assertIsNone(Round(Melody((60, 1)), (0, 0), clashing=(0,)).first_clash())
        self.assertIsNone(Round(Melody((None, 1)), (0, 0), (0, 0), clashing=(0,)).first_clash())


class CountClashes(unittest.TestCase):
    def test_each_number_of_beats(self):
        for case in ROUNDS:
            sung = made(case)
            beats = horizon(case)
            found = [beat for beat, _, _ in plain.clashes(*case, 0, beats)]
            for many in range(beats + 1):
                expected = len([beat for beat in found if beat < many])
                self.assertEqual(sung.count_clashes(many), expected)

    def test_many_beats(self):
        sung = Round(Melody((60, 2), (None, 1), (64, 1)), (0, 0), (1, 1))
        self.assertEqual(sung.count_clashes(LAST), LAST // 4)
        self.assertEqual(sung.count_clashes(LAST - 2), LAST // 4)
        self.assertEqual(sung.count_clashes(LAST - 3), LAST // 4 - 1)

    def test_many_clashes(self):
        voices = [(0, 0)] * 7 + [(1000, 0)]
        sung = Round(Melody((60, 1)), *voices, clashing=(0,))
        self.assertEqual(sung.count_clashes(1000), 21 * 1000)
        self.assertEqual(sung.count_clashes(1001), 21 * 1000 + 28)
        self.assertEqual(sung.count_clashes(LAST), 28 * LAST - 7 * 1000)

    def test_no_clashes(self):
        self.assertEqual(Round(Melody((60, 1)), (0, 0), (3, 4)).count_clashes(LAST), 0)

    def test_wrong_numbers(self):
        for beats in (-1, LAST + 1, *plain.NO_NUMBERS):
            with self.subTest(beats=beats), self.assertRaises(InvalidNumber):
                made(ROUNDS[0]).count_clashes(beats)


class NthClash(unittest.TestCase):
    def test_each_number(self):
        for case in ROUNDS:
            sung = made(case)
            found = plain.clashes(*case, 0, horizon(case))
            for at, (beat, _, _) in enumerate(found):
                self.assertEqual(sung.nth_clash(at + 1), beat)
            if not found:
                self.assertIsNone(sung.nth_clash(1))
                self.assertIsNone(sung.nth_clash(LAST))

    def test_it_fits_the_count(self):
        for case in ROUNDS:
            sung = made(case)
            for beats in (LAST, LAST - 1, LAST - 17):
                number = sung.count_clashes(beats)
                if 0 < number < LAST:
                    self.assertLess(sung.nth_clash(number), beats)
                    self.assertGreaterEqual(sung.nth_clash(number + 1), beats)

    def test_before_all_voices_sing(self):
        # The voice that begins last never sounds together with another one.
        melody = Melody((60, 1), (None, 2))
        sung = Round(melody, (0, 0), (3, 1), (1000, 0))
        self.assertEqual(sung.nth_clash(1), 3)
        self.assertEqual(sung.nth_clash(332), 996)
        self.assertEqual(sung.nth_clash(333), 999)
        self.assertEqual(sung.nth_clash(334), 1002)

    def test_a_single_voice(self):
        sung = Round(Melody((60, 1)), (1000, 0), clashing=tuple(range(12)))
        self.assertIsNone(sung.nth_clash(1))

    def test_beyond_the_last_beat(self):
        notes = [(None, 16)] * 31 + [(60, 16)]
        sung = Round(Melody(*notes), (0, 0), (512, 1))
        expected = 512 + 512 * ((LAST - 1) // 16) + 496 + (LAST - 1) % 16
        self.assertEqual(sung.nth_clash(LAST), expected)
        self.assertGreater(expected, LAST)

    def test_several_clashes_in_a_beat(self):
        sung = Round(Melody((60, 1)), (0, 0), (0, 0), (0, 0), (2, 0), clashing=(0,))
        beats = [sung.nth_clash(number) for number in range(1, 20)]
        self.assertEqual(beats, [0] * 3 + [1] * 3 + [2] * 6 + [3] * 6 + [4])
        self.assertEqual(sung.nth_clash(LAST), 2 + (LAST - 7) // 6)

    def test_wrong_numbers(self):
        for number in (0, -1, LAST + 1, *plain.NO_NUMBERS):
            with self.subTest(number=number), self.assertRaises(InvalidNumber):
                made(ROUNDS[0]).nth_clash(number)
            with self.subTest(number=number), self.assertRaises(InvalidNumber):
                made(ROUNDS[-1]).nth_clash(number)


class FirstDifference(unittest.TestCase):
    def test_all_pairs(self):
        for one in ROUNDS:
            for other in ROUNDS:
                beats = range(150)
                differ = [
                    beat
                    for beat in beats
                    if plain.heard(one[0], one[1], beat) != plain.heard(other[0], other[1], beat)
                ]
                expected = differ[0] if differ else None
                self.assertEqual(made(one).first_difference(made(other)), expected)

    def test_order_of_voices_is_not_heard(self):
        melody = Melody((60, 2), (None, 1), (64, 1))
        one = Round(melody, (0, 0), (5, 2), (1000, 1))
        other = Round(melody, (1000, 1), (0, 0), (5, 2), clashing=())
        self.assertIsNone(one.first_difference(other))
        self.assertIsNone(one.first_difference(one))

    def test_repeated_pitches_are_heard(self):
        melody = Melody((None, 3), (60, 1))
        one = Round(melody, (0, 0), (0, 0))
        other = Round(melody, (0, 0))
        self.assertEqual(one.first_difference(other), 3)
        self.assertEqual(other.first_difference(one), 3)

    def test_rests_are_not_heard(self):
        one = Round(Melody((60, 1), (None, 1)), (0, 0), (1, 2))
        other = Round(Melody((60, 1), (62, 1)), (0, 0))
        self.assertIsNone(one.first_difference(other))
        silent = Round(Melody((None, 5)), (1000, 0))
        self.assertIsNone(silent.first_difference(Round(Melody((None, 3)), (0, 0), (7, 1))))

    def test_different_melodies_with_equal_pitches(self):
        one = Round(Melody((60, 1), (60, 1), (60, 1)), (0, 0))
        other = Round(Melody((60, 2)), (0, 0))
        self.assertIsNone(one.first_difference(other))
        self.assertEqual(one.first_difference(Round(Melody((60, 2)), (2, 0))), 0)

    def test_late_beginning(self):
        melody = Melody((60, 1), (None, 15))
        one = Round(melody, (0, 0), (1000, 0))
        other = Round(melody, (0, 0))
        self.assertEqual(one.first_difference(other), 1000)
        self.assertEqual(other.first_difference(one), 1000)

    def test_different_lengths(self):
        one = Melody(*[(60, 16)] * 15, (60, 15))
        other = Melody(*[(60, 16)] * 16)
        self.assertIsNone(Round(one, (0, 0)).first_difference(Round(other, (0, 0))))
        first = Melody(*[(None, 16)] * 15, (None, 14), (60, 1))
        second = Melody(*[(None, 16)] * 15, (None, 15), (60, 1))
        self.assertEqual(Round(first, (3, 0)).first_difference(Round(second, (3, 0))), 257)

    def test_after_repetitions_of_both(self):
        # The second melody has one beat more, behind its only other pitch: the rounds sing the
        # same until the first one comes to this pitch again.
        for beats in (1, 2, 16):
            first = Melody(*[(60, beats)] * 30, (62, 1))
            second = first + Melody((60, 1))
            late = 2 * len(first) - 1
            for delay in (0, 1000):
                one = Round(first, (delay, 0))
                other = Round(second, (delay, 0))
                self.assertEqual(one.first_difference(other), delay + late)
                self.assertEqual(other.first_difference(one), delay + late)

    def test_repetitions_begin_at_different_beats(self):
        one = Round(Melody((60, 1), (None, 2)), (0, 0), (1, 0), (2, 0))
        other = Round(Melody((60, 1)), (0, 0), (1000, 7))
        self.assertEqual(one.first_difference(other), 1000)
        self.assertEqual(other.first_difference(one), 1000)
        self.assertIsNone(one.first_difference(Round(Melody((60, 1)), (0, 0))))


class Kept(unittest.TestCase):
    def test_answers_stay_the_same(self):
        for case in ROUNDS:
            sung = made(case)
            answers = [self.answers(sung) for _ in range(2)]
            self.assertEqual(answers[0], answers[1])
            self.assertEqual((sung.voices, sung.clashing), (case[1], case[2]))

    def answers(self, sung):
        return (
            [sung.chord(beat) for beat in range(30)],
            list(sung.clashes(0, 30)),
            sung.first_clash(),
            sung.count_clashes(30),
            sung.nth_clash(3),
            sung.first_difference(made(ROUNDS[4])),
        )

    def test_an_error_changes_nothing(self):
        sung = made(ROUNDS[0])
        for call in (sung.chord, sung.count_clashes, sung.nth_clash):
            with self.assertRaises(InvalidNumber):
                call(-1)
        with self.assertRaises(InvalidNumber):
            list(sung.clashes(0, 600))
        self.assertEqual(list(sung.clashes(0, 5)), [(1, 0, 1), (5, 0, 1)])
        self.assertEqual(sung.count_clashes(10), 3)


if __name__ == "__main__":
    unittest.main()

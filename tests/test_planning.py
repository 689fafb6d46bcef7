"""Planning: delays, most voices and fewest rests (points 1 and 7)."""

import itertools
import random
import time
import unittest

from canonvoices.errors import InvalidNumber, InvalidRound, OutOfRange, TooLong
from canonvoices.melodies import Melody
from canonvoices.planning import fewest_rests, good_delays, most_voices
from canonvoices.rounds import Round

import plain

DEFAULT = (1, 2, 6, 10, 11)

# Intervals of several kinds: none, all, equal pitches only, and others.
INTERVALS = (DEFAULT, (), (0,), tuple(range(12)), (1,), (0, 5, 7), (3, 4, 8, 9, 11))

# Notes of several kinds of melodies.
MELODIES = (
    ((60, 2), (None, 1), (64, 1)),
    ((60, 1),),
    ((60, 16),),
    ((None, 1),),
    ((None, 5), (None, 2)),
    ((60, 1), (61, 1), (62, 1), (63, 1), (64, 1), (65, 1)),
    ((60, 1), (None, 1), (66, 3), (54, 1), (None, 2), (71, 2)),
    ((24, 3), (103, 2), (None, 1), (103, 1)),
    ((60, 7), (61, 1)),
)


def random_notes(rng, most, beats):
    """Return one to most random notes with at most so many beats each."""
    pitches = [None, None, *rng.sample(range(50, 80), 5)]
    return [(rng.choice(pitches), rng.randint(1, beats)) for _ in range(rng.randint(1, most))]


def random_intervals(rng):
    """Return a random ascending tuple of intervals."""
    return tuple(sorted(rng.sample(range(12), rng.randint(0, 6))))


def never_clash(notes, voices, clashing):
    """Tell whether voices never clash, by counting beats until they repeat themselves."""
    last = max(delay for delay, _ in voices) + len(plain.line(notes))
    return not plain.clashes(notes, voices, clashing, 0, last)


class Wrong(unittest.TestCase):
    """How the three functions refuse what is wrong."""

    def assert_invalid_round(self, index, call, *arguments):
        with self.subTest(call=call, arguments=arguments):
            with self.assertRaises(InvalidRound) as caught:
                call(*arguments)
            self.assertEqual((caught.exception.part, caught.exception.index), ("clashing", index))

    def calls(self):
        """Return functions of a melody and of intervals only."""
        return (
            lambda melody, clashing: good_delays(melody, 0, clashing),
            most_voices,
            lambda melody, clashing: fewest_rests(melody, 0, 0, clashing),
        )

    def test_intervals(self):
        melody = Melody((60, 2), (61, 1))
        for call in self.calls():
            for clashing in plain.NO_TUPLES:
                self.assert_invalid_round(0, call, melody, clashing)
            for interval in (-1, 12, 10 ** 30, *plain.NO_NUMBERS):
                self.assert_invalid_round(0, call, melody, (interval,))
                self.assert_invalid_round(2, call, melody, (0, 3, interval, 1))
            self.assert_invalid_round(1, call, melody, (4, 4))
            self.assert_invalid_round(3, call, melody, (0, 1, 11, 10))
            self.assert_invalid_round(12, call, melody, tuple(range(13)))

    def test_shifts(self):
        melody = Melody((60, 2), (61, 1))
        for shift in (-25, 25, 10 ** 30, *plain.NO_NUMBERS):
            with self.subTest(shift=shift), self.assertRaises(InvalidNumber):
                good_delays(melody, shift)
            with self.subTest(shift=shift), self.assertRaises(InvalidNumber):
                fewest_rests(melody, 0, shift)

    def test_delays(self):
        melody = Melody((60, 2), (61, 1))
        for delay in (-1, 1001, 10 ** 30, *plain.NO_NUMBERS):
            with self.subTest(delay=delay), self.assertRaises(InvalidNumber):
                fewest_rests(melody, delay, 0)

    def test_shifted_pitches(self):
        for pitch, shift in ((103, 24), (24, -24)):
            melody = Melody((60, 1), (pitch, 1))
            self.assertEqual(good_delays(melody, shift, ()), [0, 1])
            self.assertEqual(fewest_rests(melody, 0, shift, ()), ([], melody))
            beyond = melody >> (1 if shift > 0 else -1)
            with self.assertRaises(OutOfRange):
                good_delays(beyond, shift, ())
            with self.assertRaises(OutOfRange):
                fewest_rests(beyond, 0, shift, ())

    def test_numbers_before_intervals_before_shifted_pitches(self):
        high = Melody((127, 1))
        with self.assertRaises(InvalidNumber):
            good_delays(high, 25, (12,))
        self.assert_invalid_round(0, good_delays, high, 1, (12,))
        with self.assertRaises(InvalidNumber):
            fewest_rests(high, 1001, 1, (12,))
        with self.assertRaises(InvalidNumber):
            fewest_rests(high, 0, -25, (12,))
        self.assert_invalid_round(1, fewest_rests, high, 0, 1, (3, 2))

    def test_intervals_before_the_length(self):
        long = Melody(*[(60, 16)] * 4)
        self.assert_invalid_round(0, most_voices, long, (True,))
        with self.assertRaises(TooLong):
            most_voices(long, ())


class GoodDelays(unittest.TestCase):
    def assert_good(self, notes, shift, clashing):
        melody = Melody(*notes)
        expected = [
            delay
            for delay in range(len(melody))
            if never_clash(notes, ((0, 0), (delay, shift)), clashing)
        ]
        with self.subTest(notes=notes, shift=shift, clashing=clashing):
            self.assertEqual(good_delays(melody, shift, clashing), expected)

    def test_each_delay(self):
        for notes in MELODIES:
            for shift in (-24, -11, -1, 0, 1, 6, 24):
                for clashing in INTERVALS:
                    self.assert_good(notes, shift, clashing)

    def test_random_melodies(self):
        rng = random.Random(7)
        for _ in range(150):
            self.assert_good(random_notes(rng, 7, 4), rng.randint(-24, 24), random_intervals(rng))

    def test_a_round_with_each_delay(self):
        melody = Melody((60, 3), (None, 2), (67, 1), (61, 2), (59, 16))
        for shift in (-24, 0, 5, 24):
            good = good_delays(melody, shift)
            for delay in range(len(melody)):
                count = Round(melody, (0, 0), (delay, shift)).count_clashes(10 ** 18)
                self.assertEqual(count == 0, delay in good)

    def test_default(self):
        melody = Melody((60, 1), (61, 1), (66, 1), (None, 1))
        for shift in (0, 1):
            self.assertEqual(good_delays(melody, shift), good_delays(melody, shift, DEFAULT))

    def test_the_longest_melody(self):
        melody = Melody((60, 16), *[(None, 16)] * 30, (61, 16))
        self.assertEqual(len(melody), 512)
        self.assertEqual(good_delays(melody, 0, (1,)), [0, *range(32, 481)])
        self.assertEqual(good_delays(melody, 0, (0,)), list(range(16, 497)))

    def test_one_beat(self):
        self.assertEqual(good_delays(Melody((60, 1)), 0), [0])
        self.assertEqual(good_delays(Melody((60, 1)), 0, (0,)), [])
        self.assertEqual(good_delays(Melody((60, 1)), 1), [])
        self.assertEqual(good_delays(Melody((None, 1)), 24, tuple(range(12))), [0])

    def test_lists_are_new(self):
        melody = Melody((60, 2), (None, 1), (64, 1))
        good = good_delays(melody, 1)
        good.append(3)
        self.assertEqual(good_delays(melody, 1), [2])


class MostVoices(unittest.TestCase):
    def assert_most(self, notes, clashing):
        length = len(plain.line(notes))
        pairs = {
            delay: never_clash(notes, ((0, 0), (delay, 0)), clashing) for delay in range(1, length)
        }
        best = [0]
        # Combinations of one size come in list order, so only a longer list is better.
        for many in range(1, length):
            for others in itertools.combinations(range(1, length), many):
                delays = [0, *others]
                together = itertools.combinations(delays, 2)
                if many >= len(best) and all(pairs[late - early] for early, late in together):
                    best = delays
        with self.subTest(notes=notes, clashing=clashing):
            self.assertEqual(most_voices(Melody(*notes), clashing), (len(best), best))

    def test_all_sets_of_delays(self):
        for notes in MELODIES:
            if len(plain.line(notes)) <= 12:
                for clashing in INTERVALS:
                    self.assert_most(notes, clashing)

    def test_random_melodies(self):
        rng = random.Random(8)
        for _ in range(120):
            self.assert_most(random_notes(rng, 6, 2), random_intervals(rng))
        for _ in range(20):
            notes = [(rng.choice((None, None, 60, 61, 66)), 1) for _ in range(11)]
            self.assert_most(notes, (1, 6))

    def test_the_voices_never_clash(self):
        rng = random.Random(9)
        for _ in range(60):
            notes = [(rng.choice((None, None, None, 60, 61, 65, 66)), 2) for _ in range(28)]
            melody = Melody(*notes)
            many, delays = most_voices(melody, (1,))
            self.assertEqual(many, len(delays))
            self.assertEqual(delays, sorted(set(delays)))
            self.assertEqual(delays[0], 0)
            good = good_delays(melody, 0, (1,))
            for early, late in itertools.combinations(delays, 2):
                self.assertIn(late - early, good)

    def test_the_first_list_in_list_order(self):
        # Two voices clash if one of them is 1, 3, 5 or 7 beats later.
        melody = Melody(*[(60, 1), (61, 1)] * 4)
        self.assertEqual(most_voices(melody), (4, [0, 2, 4, 6]))
        # Two voices clash if one of them is 2, 3, 5 or 6 beats later; 4 or 7 would do as well as 1.
        melody = Melody((60, 1), (None, 1), (61, 1), (61, 1), (None, 4))
        self.assertEqual(good_delays(melody, 0), [0, 1, 4, 7])
        self.assertEqual(most_voices(melody), (2, [0, 1]))

    def test_a_single_voice_never_clashes(self):
        self.assertEqual(most_voices(Melody((60, 1)), (0,)), (1, [0]))
        self.assertEqual(most_voices(Melody((60, 16)), (0,)), (1, [0]))
        self.assertEqual(most_voices(Melody((60, 1), (61, 1)), tuple(range(12))), (1, [0]))

    def test_more_voices_than_a_round_has(self):
        self.assertEqual(most_voices(Melody((60, 16), (64, 4))), (20, list(range(20))))

    def test_rests_alone(self):
        for beats in (1, 2, 16):
            expected = (beats, list(range(beats)))
            self.assertEqual(most_voices(Melody((None, beats)), tuple(range(12))), expected)

    def test_lengths(self):
        longest = Melody((60, 16), (64, 16), (None, 16), (67, 12))
        self.assertEqual(most_voices(longest), (60, list(range(60))))
        for more in ((None, 1), (64, 1), (61, 16)):
            with self.assertRaises(TooLong):
                most_voices(longest + Melody(more))
        with self.assertRaises(TooLong):
            most_voices(Melody(*[(None, 16)] * 32))

    def test_default(self):
        for notes in MELODIES:
            melody = Melody(*notes)
            self.assertEqual(most_voices(melody), most_voices(melody, DEFAULT))

    def test_lists_are_new(self):
        melody = Melody((60, 2), (None, 1), (64, 1))
        most_voices(melody)[1].clear()
        self.assertEqual(most_voices(melody), (4, [0, 1, 2, 3]))


class SixtyBeats(unittest.TestCase):
    """Melodies of 60 beats, also such that a plain search would take for ever."""

    def spread(self, bad):
        """Return a melody of 60 beats that clashes with itself with certain delays."""
        beats = [None] * 60
        beats[0] = 60
        for delay in bad:
            beats[delay] = 61
        # Rests in a row are one note, as a melody has 32 notes at most.
        notes = []
        for pitch, row in itertools.groupby(beats):
            many = len(list(row))
            while many > 0:
                notes.append((pitch, min(many, 16)))
                many -= 16
        melody = Melody(*notes)
        self.assertEqual(len(melody), 60)
        self.assertEqual(set(range(60)) - set(good_delays(melody, 0, (1,))),
                         {delay for one in bad for delay in (one, 60 - one)})
        return melody

    def assert_soon(self, melody, clashing, expected):
        start = time.monotonic()
        many, delays = most_voices(melody, clashing)
        # Much more than it takes, and much less than trying all sets of delays.
        self.assertLess(time.monotonic() - start, 20)
        self.assertEqual(many, expected)
        self.assertEqual(len(delays), expected)

    def test_parts_that_do_not_clash_with_each_other(self):
        # Twelve rings of five delays, two of which can stay in each: 5 ** 12 choices.
        melody = self.spread((12,))
        self.assert_soon(melody, (1,), 24)
        self.assertEqual(most_voices(melody, (1,))[1], [*range(12), *range(24, 36)])
        # Twenty triangles: 3 ** 20 choices.
        melody = self.spread((20,))
        self.assert_soon(melody, (1,), 20)
        self.assertEqual(most_voices(melody, (1,))[1], list(range(20)))

    def test_rings(self):
        for bad in ((1,), (7,), (29,)):
            melody = self.spread(bad)
            self.assert_soon(melody, (1,), 30)
        self.assertEqual(most_voices(self.spread((1,)), (1,))[1], list(range(0, 60, 2)))

    def test_many_choices(self):
        melody = self.spread((7, 10, 17))
        self.assert_soon(melody, (1,), 20)
        self.assertEqual(most_voices(melody, (1,))[1], list(range(0, 60, 3)))
        self.assert_soon(self.spread((1, 2, 3)), (1,), 15)
        self.assert_soon(self.spread((5, 26, 29)), (1,), 20)
        self.assert_soon(self.spread((3, 8, 13, 19)), (1,), 23)

    def test_all_voices_and_one_voice(self):
        self.assert_soon(Melody((60, 16), (60, 16), (60, 16), (60, 12)), DEFAULT, 60)
        self.assert_soon(Melody((60, 16), (60, 16), (60, 16), (60, 12)), (0,), 1)


class FewestRests(unittest.TestCase):
    def with_rests(self, notes, numbers):
        """Return notes of which some are rests."""
        return [(None if at in numbers else pitch, beats) for at, (pitch, beats) in enumerate(notes)]

    def fewest(self, notes, delay, shift, clashing):
        """Return the first list in list order of the fewest notes, by trying all sets."""
        voices = ((0, 0), (delay, shift))
        for many in range(len(notes) + 1):
            for numbers in itertools.combinations(range(len(notes)), many):
                if never_clash(self.with_rests(notes, numbers), voices, clashing):
                    return list(numbers)

    def assert_fewest(self, notes, delay, shift, clashing):
        numbers, melody = fewest_rests(Melody(*notes), delay, shift, clashing)
        with self.subTest(notes=notes, delay=delay, shift=shift, clashing=clashing):
            self.assertEqual(numbers, self.fewest(notes, delay, shift, clashing))
            self.assertEqual(list(melody.notes), self.with_rests(notes, numbers))

    def test_all_sets_of_notes(self):
        for notes in MELODIES:
            for delay in (0, 1, 2, 5, 18):
                for shift in (-24, 0, 1, 5):
                    for clashing in INTERVALS:
                        self.assert_fewest(notes, delay, shift, clashing)

    def test_random_melodies(self):
        rng = random.Random(10)
        for _ in range(150):
            notes = random_notes(rng, 7, 4)
            delay = rng.choice((0, 1, 2, 3, 7, 20))
            self.assert_fewest(notes, delay, rng.randint(-24, 24), random_intervals(rng))
        for _ in range(40):
            notes = [(rng.randint(50, 70), rng.randint(1, 2)) for _ in range(8)]
            self.assert_fewest(notes, rng.randint(0, 16), rng.randint(-3, 3), DEFAULT)

    def test_late_delays(self):
        for notes in MELODIES[:2] + MELODIES[5:7]:
            for delay in (999, 1000):
                self.assert_fewest(notes, delay, 1, DEFAULT)

    def test_delays_beyond_the_length(self):
        melody = Melody((60, 3), (61, 1), (None, 2), (66, 4), (72, 1))
        for shift in (-6, 0, 1):
            for delay in range(11):
                expected = fewest_rests(melody, delay, shift)
                self.assertEqual(fewest_rests(melody, delay + 11, shift), expected)
                self.assertEqual(fewest_rests(melody, delay + 11 * 89, shift), expected)

    def test_no_note(self):
        melody = Melody((60, 2), (None, 1), (64, 1))
        self.assertEqual(fewest_rests(melody, 0, 0), ([], melody))
        self.assertEqual(fewest_rests(melody, 1, 1, ()), ([], melody))

    def test_all_notes(self):
        melody = Melody((60, 2), (62, 1), (64, 1))
        silent = Melody((None, 2), (None, 1), (None, 1))
        self.assertEqual(fewest_rests(melody, 0, 0, (0,)), ([0, 1, 2], silent))
        self.assertEqual(fewest_rests(melody, 0, 1), ([0, 1, 2], silent))

    def test_a_note_that_clashes_with_itself(self):
        melody = Melody((60, 1), (40, 2), (65, 1))
        numbers, other = fewest_rests(melody, 1, 1, (1,))
        self.assertEqual((numbers, other.text), ([1], "60/1 -/2 65/1"))

    def test_rests_are_no_notes_that_become_rests(self):
        melody = Melody((None, 2), (60, 1), (None, 1), (61, 1))
        numbers, other = fewest_rests(melody, 0, 0, tuple(range(12)))
        self.assertEqual((numbers, other.text), ([1, 3], "-/2 -/1 -/1 -/1"))
        silent = Melody((None, 3), (None, 1))
        self.assertEqual(fewest_rests(silent, 1, 24, tuple(range(12))), ([], silent))

    def test_the_first_list_in_list_order(self):
        # The notes 0 and 1 clash, and 2 and 3: one of each pair must become a rest.
        melody = Melody((60, 1), (61, 1), (None, 1), (80, 1), (81, 1), (None, 1))
        self.assertEqual(fewest_rests(melody, 1, 0, (1,))[0], [0, 3])
        # The middle one of three notes is enough, though the first one comes before it.
        melody = Melody((60, 1), (61, 1), (60, 1), (None, 1))
        self.assertEqual(fewest_rests(melody, 1, 0, (1,))[0], [1])

    def test_32_notes(self):
        melody = Melody(*[(60, 1), (61, 1)] * 16)
        start = time.monotonic()
        self.assertEqual(fewest_rests(melody, 1, 0, (1,))[0], list(range(0, 32, 2)))
        self.assertEqual(fewest_rests(melody, 0, 0, (0,))[0], list(range(32)))
        self.assertEqual(fewest_rests(melody, 2, 0, (1,))[0], [])
        rng = random.Random(11)
        for _ in range(60):
            notes = [(rng.randint(40, 80), rng.choice((1, 2, 9, 16))) for _ in range(32)]
            melody = Melody(*notes)
            delay = rng.randint(0, 1000)
            shift = rng.randint(-24, 24)
            numbers, other = fewest_rests(melody, delay, shift)
            self.assertEqual(numbers, sorted(set(numbers)))
            self.assertEqual(list(other.notes), self.with_rests(notes, numbers))
            self.assertIsNone(Round(other, (0, 0), (delay, shift)).first_clash())
            for number in numbers:
                # None of them could stay.
                fewer = [one for one in numbers if one != number]
                kept = Melody(*self.with_rests(notes, fewer))
                self.assertIsNotNone(Round(kept, (0, 0), (delay, shift)).first_clash())
        self.assertLess(time.monotonic() - start, 20)

    def test_default(self):
        for notes in MELODIES:
            melody = Melody(*notes)
            for delay in (0, 1, 3):
                expected = fewest_rests(melody, delay, 1, DEFAULT)
                self.assertEqual(fewest_rests(melody, delay, 1), expected)

    def test_the_melody_stays_and_lists_are_new(self):
        melody = Melody((60, 2), (None, 1), (64, 1))
        numbers, _ = fewest_rests(melody, 1, 1)
        numbers.append(7)
        self.assertEqual(melody.notes, ((60, 2), (None, 1), (64, 1)))
        self.assertEqual(fewest_rests(melody, 1, 1)[0], [0])


if __name__ == "__main__":
    unittest.main()

"""Listening: what is heard of a hidden delay (points 1 and 8)."""

import itertools
import random
import unittest

from canonvoices.errors import Contradiction, InvalidNumber, OutOfRange
from canonvoices.listening import Listener
from canonvoices.melodies import Melody

import plain

LAST = 10 ** 18

NOTES = ((60, 2), (None, 1), (64, 1))

# Notes, a shift and a limit of several kinds.
CASES = (
    (NOTES, 1, 3),
    (NOTES, 0, 12),
    (NOTES, -4, 9),
    (((60, 1),), 0, 20),
    (((60, 1),), 24, 6),
    (((None, 3),), -24, 6),
    (((60, 1), (61, 2), (None, 3), (60, 1), (66, 4)), 5, 40),
    (((60, 1), (61, 2), (None, 3), (60, 1), (66, 4)), -1, 0),
    (((24, 5), (103, 3), (None, 9)), -24, 30),
)


class PlainListener:
    """Tries all delays for all observations."""

    def __init__(self, notes, shift, limit):
        self.notes = notes
        self.shift = shift
        self.limit = limit
        self.history = []

    def heard(self, delay, beat):
        """Return what sounds in a beat if the second voice has a delay."""
        return tuple(plain.heard(self.notes, ((0, 0), (delay, self.shift)), beat))

    def delays(self, history):
        """Return all delays that fit a list of observations."""
        return [
            delay
            for delay in range(self.limit + 1)
            if all(self.heard(delay, beat) == pitches for beat, pitches in history)
        ]

    def hear_all(self, chords):
        """Observe chords; return the number of possible delays, or None for a contradiction."""
        history = self.history + [(beat, tuple(sorted(pitches))) for beat, *pitches in chords]
        left = len(self.delays(history))
        if left == 0:
            return None
        self.history = history
        return left

    def best_beat(self, limit):
        """Return the first beat that leaves the fewest delays in the worst case."""
        worst = []
        for beat in range(limit + 1):
            chords = [self.heard(delay, beat) for delay in self.delays(self.history)]
            worst.append(max(chords.count(chord) for chord in chords))
        return worst.index(min(worst))


class Making(unittest.TestCase):
    def test_limits(self):
        melody = Melody(*NOTES)
        for limit in (0, 1, 499, 500):
            self.assertEqual(Listener(melody, 0, limit).delays, list(range(limit + 1)))
        for limit in (-1, 501, 10 ** 30, *plain.NO_NUMBERS):
            with self.subTest(limit=limit), self.assertRaises(InvalidNumber):
                Listener(melody, 0, limit)

    def test_shifts(self):
        melody = Melody(*NOTES)
        for shift in (-24, -1, 0, 24):
            self.assertEqual(Listener(melody, shift, 0).hear(0, 60 + shift, 60), 1)
        for shift in (-25, 25, 10 ** 30, *plain.NO_NUMBERS):
            with self.subTest(shift=shift), self.assertRaises(InvalidNumber):
                Listener(melody, shift, 3)

    def test_shifted_pitches(self):
        Listener(Melody((103, 1), (24, 1)), 24, 0)
        Listener(Melody((103, 1), (24, 1)), -24, 0)
        for pitch, shift in ((104, 24), (127, 1), (0, -1), (23, -24)):
            with self.assertRaises(OutOfRange):
                Listener(Melody((60, 1), (pitch, 1)), shift, 0)
        Listener(Melody((None, 1)), -24, 0)

    def test_numbers_before_shifted_pitches(self):
        high = Melody((127, 1))
        for shift, limit in ((25, 501), (25, 3), (1, 501), (1, -1), (1, True)):
            with self.assertRaises(InvalidNumber):
                Listener(high, shift, limit)
        with self.assertRaises(OutOfRange):
            Listener(high, 1, 500)

    def test_in_the_beginning(self):
        listener = Listener(Melody(*NOTES), 1, 3)
        self.assertEqual((listener.delays, listener.history), ([0, 1, 2, 3], []))


class Hearing(unittest.TestCase):
    def assert_like(self, listener, plain_listener):
        self.assertEqual(listener.history, plain_listener.history)
        self.assertEqual(listener.delays, plain_listener.delays(plain_listener.history))

    def test_each_hidden_delay(self):
        for notes, shift, limit in CASES:
            for hidden in range(limit + 1):
                listener = Listener(Melody(*notes), shift, limit)
                other = PlainListener(notes, shift, limit)
                for beat in (limit + 3, 1, 0, 4, LAST, LAST - 1):
                    chord = (beat, *reversed(other.heard(hidden, beat)))
                    self.assertEqual(listener.hear(*chord), other.hear_all([chord]))
                    self.assert_like(listener, other)
                self.assertIn(hidden, listener.delays)

    def test_random_observations(self):
        rng = random.Random(5)
        for notes, shift, limit in CASES:
            pitches = [pitch for pitch, _ in notes if pitch is not None] or [60]
            pitches += [pitch + shift for pitch in pitches]
            for _ in range(12):
                listener = Listener(Melody(*notes), shift, limit)
                other = PlainListener(notes, shift, limit)
                for _ in range(12):
                    self.observe_at_random(rng, listener, other, pitches)

    def observe_at_random(self, rng, listener, other, pitches):
        chords = []
        for _ in range(rng.choice((0, 1, 1, 1, 2, 3))):
            beat = rng.randint(0, 30)
            sounding = list(other.heard(rng.randint(0, other.limit), beat))
            if rng.random() < 0.3:
                sounding = [rng.choice(pitches) for _ in range(rng.randint(0, 3))]
            rng.shuffle(sounding)
            chords.append((beat, *sounding))
        expected = other.hear_all(chords)
        if expected is None:
            with self.assertRaises(Contradiction):
                listener.hear_all(*chords)
        else:
            self.assertEqual(listener.hear_all(*chords), expected)
        self.assert_like(listener, other)

    def test_any_order_of_the_pitches(self):
        for pitches in itertools.permutations((60, 61)):
            listener = Listener(Melody(*NOTES), 1, 3)
            self.assertEqual(listener.hear(1, *pitches), 2)
            self.assertEqual(listener.history, [(1, (60, 61))])

    def test_the_same_pitch_twice(self):
        listener = Listener(Melody(*NOTES), 0, 3)
        self.assertEqual(listener.hear(1, 60, 60), 2)
        self.assertEqual((listener.delays, listener.history), ([0, 1], [(1, (60, 60))]))
        with self.assertRaises(Contradiction):
            listener.hear(1, 60)

    def test_nothing_sounds(self):
        listener = Listener(Melody(*NOTES), 0, 3)
        self.assertEqual(listener.hear(2), 2)
        self.assertEqual((listener.delays, listener.history), ([0, 3], [(2, ())]))

    def test_one_too_few_and_one_too_many(self):
        listener = Listener(Melody(*NOTES), 1, 0)
        for pitches in ((), (60,), (61,), (60, 61, 60), (60, 60, 61), (60, 61, 62), (60,) * 9):
            with self.subTest(pitches=pitches), self.assertRaises(Contradiction):
                listener.hear(1, *pitches)
        self.assertEqual(listener.hear(1, 60, 61), 1)

    def test_wrong_pitches(self):
        listener = Listener(Melody(*NOTES), 1, 3)
        for wrong in (-1, 128, 10 ** 30, *plain.NO_NUMBERS):
            for pitches in ((wrong,), (60, wrong), (wrong, 61), (60, 61, wrong), (127, wrong)):
                with self.subTest(pitches=pitches), self.assertRaises(InvalidNumber):
                    listener.hear(1, *pitches)
        self.assertEqual((listener.delays, listener.history), ([0, 1, 2, 3], []))
        for pitch in (0, 127):
            with self.assertRaises(Contradiction):
                listener.hear(1, pitch)

    def test_beats(self):
        listener = Listener(Melody(*NOTES), 1, 3)
        self.assertEqual(listener.hear(0, 60), 3)
        # 10 ** 18 is a multiple of the length.
        self.assertEqual(listener.hear(LAST, 60), 1)
        self.assertEqual((listener.delays, listener.history), ([2], [(0, (60,)), (LAST, (60,))]))
        for beat in (-1, LAST + 1, *plain.NO_NUMBERS):
            with self.subTest(beat=beat), self.assertRaises(InvalidNumber):
                listener.hear(beat, 60)
            with self.subTest(beat=beat), self.assertRaises(InvalidNumber):
                listener.hear_all((beat, 60))
        self.assertEqual((listener.delays, listener.history), ([2], [(0, (60,)), (LAST, (60,))]))

    def test_a_voice_that_has_not_begun(self):
        listener = Listener(Melody((60, 1)), 2, 500)
        self.assertEqual(listener.hear(499, 60), 1)
        self.assertEqual(listener.delays, [500])
        self.assertEqual(listener.hear(500, 62, 60), 1)

    def test_contradiction_changes_nothing(self):
        listener = Listener(Melody(*NOTES), 1, 3)
        listener.hear(1, 60, 61)
        for chord in ((1, 62), (1, 60), (2, 60, 61), (3,)):
            with self.assertRaises(Contradiction):
                listener.hear(*chord)
            self.assertEqual((listener.delays, listener.history), ([0, 1], [(1, (60, 61))]))
        self.assertEqual(listener.hear(2, 61), 1)

    def test_the_same_observation_again(self):
        listener = Listener(Melody(*NOTES), 1, 3)
        self.assertEqual([listener.hear(1, 61, 60) for _ in range(3)], [2, 2, 2])
        self.assertEqual(listener.history, [(1, (60, 61))] * 3)

    def test_readings_are_new(self):
        listener = Listener(Melody(*NOTES), 1, 3)
        listener.hear(1, 60, 61)
        delays = listener.delays
        history = listener.history
        self.assertIsNot(delays, listener.delays)
        self.assertIsNot(history, listener.history)
        delays.append(3)
        history.clear()
        self.assertEqual((listener.delays, listener.history), ([0, 1], [(1, (60, 61))]))
        kept = listener.delays
        listener.hear(2, 61)
        self.assertEqual(kept, [0, 1])

    def test_listeners_do_not_influence_each_other(self):
        melody = Melody(*NOTES)
        one = Listener(melody, 1, 3)
        other = Listener(melody, 1, 3)
        one.hear(1, 60, 61)
        self.assertEqual((other.delays, other.history), ([0, 1, 2, 3], []))
        other.hear(1, 60)
        self.assertEqual((one.delays, other.delays), ([0, 1], [2, 3]))


class HearingAll(unittest.TestCase):
    def setUp(self):
        self.listener = Listener(Melody(*NOTES), 1, 3)

    def assert_unchanged(self):
        self.assertEqual((self.listener.delays, self.listener.history), ([0, 1, 2, 3], []))

    def test_no_chords(self):
        self.assertEqual(self.listener.hear_all(), 4)
        self.assert_unchanged()
        self.listener.hear(1, 60, 61)
        self.assertEqual(self.listener.hear_all(), 2)
        self.assertEqual(self.listener.history, [(1, (60, 61))])

    def test_several_chords(self):
        self.assertEqual(self.listener.hear_all((1, 61, 60), (2, 61), (1, 60, 61)), 1)
        expected = [(1, (60, 61)), (2, (61,)), (1, (60, 61))]
        self.assertEqual((self.listener.delays, self.listener.history), ([1], expected))

    def test_after_other_observations(self):
        self.listener.hear(0, 60)
        self.assertEqual(self.listener.hear_all((1, 60)), 2)
        self.assertEqual(self.listener.history, [(0, (60,)), (1, (60,))])

    def test_a_later_one_is_impossible(self):
        # The delay 0 or 1 fits the first one, 2 or 3 the second one.
        for chords in (((1, 60, 61), (1, 60)), ((1, 60, 61), (2, 61), (2,)), ((1, 62),)):
            with self.assertRaises(Contradiction):
                self.listener.hear_all(*chords)
            self.assert_unchanged()

    def test_a_later_one_is_malformed(self):
        wrong = [(), (-1, 60), (LAST + 1,), (True, 60), ("1",), (None,), (1, None), (1, 128),
                 (1, 60, True), (1, 60, 61, -1), (1, (60, 61)), (1, [60]), ((1, 60),)]
        for chord in (*wrong, *plain.NO_TUPLES):
            for chords in ((chord,), ((1, 60, 61), chord), ((1, 60, 61), (2, 61), chord, (1, 60))):
                with self.subTest(chords=chords), self.assertRaises(InvalidNumber):
                    self.listener.hear_all(*chords)
                self.assert_unchanged()

    def test_one_after_another(self):
        with self.assertRaises(Contradiction):
            self.listener.hear_all((1, 60, 61), (1, 60), (1, 128), ())
        with self.assertRaises(InvalidNumber):
            self.listener.hear_all((1, 60, 61), (), (1, 60))
        self.assert_unchanged()


class BestBeat(unittest.TestCase):
    def test_each_limit(self):
        for notes, shift, limit in CASES:
            listener = Listener(Melody(*notes), shift, limit)
            other = PlainListener(notes, shift, limit)
            for beat in (0, 1, 2, 5, 20, 50):
                self.assertEqual(listener.best_beat(beat), other.best_beat(beat))

    def test_after_observations(self):
        for notes, shift, limit in CASES:
            listener = Listener(Melody(*notes), shift, limit)
            other = PlainListener(notes, shift, limit)
            for _ in range(4):
                beat = listener.best_beat(30)
                self.assertEqual(beat, other.best_beat(30))
                chord = (beat, *other.heard(limit // 2, beat))
                self.assertEqual(listener.hear(*chord), other.hear_all([chord]))

    def test_limits(self):
        listener = Listener(Melody(*NOTES), 1, 3)
        self.assertEqual([listener.best_beat(limit) for limit in (0, 1, 2, 200)], [0, 1, 1, 1])
        for limit in (-1, 201, 10 ** 30, *plain.NO_NUMBERS):
            with self.subTest(limit=limit), self.assertRaises(InvalidNumber):
                listener.best_beat(limit)

    def test_the_last_beat(self):
        # Both delays sound alike until the beat before the greatest one.
        notes = [(None, 16)] * 12 + [(None, 7), (60, 1)]
        listener = Listener(Melody(*notes), 0, 1)
        self.assertEqual(listener.best_beat(198), 0)
        self.assertEqual(listener.best_beat(199), 199)
        self.assertEqual(listener.best_beat(200), 199)
        notes = [(None, 16)] * 12 + [(None, 8), (60, 1)]
        listener = Listener(Melody(*notes), 0, 1)
        self.assertEqual([listener.best_beat(199), listener.best_beat(200)], [0, 200])

    def test_the_smallest_one_among_several(self):
        listener = Listener(Melody((60, 1)), 0, 4)
        # After the beats 1 and 2 three of five delays can be left, after others four or five.
        self.assertEqual([listener.best_beat(limit) for limit in range(5)], [0, 1, 1, 1, 1])
        silent = Listener(Melody((None, 2)), 0, 500)
        self.assertEqual(silent.best_beat(200), 0)

    def test_one_delay(self):
        listener = Listener(Melody(*NOTES), 1, 0)
        self.assertEqual(listener.best_beat(200), 0)

    def test_many_delays(self):
        notes = [(pitch, 13) for pitch in range(50, 82)]
        listener = Listener(Melody(*notes), 3, 500)
        other = PlainListener(notes, 3, 500)
        chords = [other.heard(delay, 200) for delay in range(501)]
        # The delays that are greater than the beat sound alike.
        self.assertEqual(listener.best_beat(200), 200)
        self.assertEqual(max(chords.count(chord) for chord in chords), 300)

    def test_nothing_is_observed(self):
        listener = Listener(Melody(*NOTES), 1, 3)
        self.assertEqual([listener.best_beat(3), listener.best_beat(3)], [1, 1])
        self.assertEqual((listener.delays, listener.history), ([0, 1, 2, 3], []))


if __name__ == "__main__":
    unittest.main()

"""Choirs: voices, undo, redo and snapshots (points 1 and 10)."""

import random
import unittest

from canonvoices.choir import Choir
from canonvoices.errors import (
    CanonError, InvalidName, InvalidNumber, InvalidRound, OutOfRange, TooManyVoices, UnknownName,
    UnknownVoice,
)
from canonvoices.melodies import Melody
from canonvoices.rounds import Round

import plain
from plain_choir import PlainChoir

DEFAULT = (1, 2, 6, 10, 11)

NOTES = ((60, 2), (None, 1), (64, 1))


def made(**more):
    """Return a choir of the melody of the document's examples."""
    return Choir(Melody(*NOTES), **more)


def reading(choir):
    """Return all that the properties of a choir tell."""
    return choir.passed, choir.singers, choir.clash_count, choir.operations


class Making(unittest.TestCase):
    def assert_invalid(self, index, clashing):
        with self.subTest(clashing=clashing), self.assertRaises(InvalidRound) as caught:
            made(clashing=clashing)
        self.assertEqual((caught.exception.part, caught.exception.index), ("clashing", index))

    def test_in_the_beginning(self):
        choir = made()
        self.assertEqual(reading(choir), (0, [], 0, []))
        self.assertEqual(choir.sing(500), 0)
        self.assertEqual(reading(choir), (500, [], 0, ["sing"]))

    def test_clashing(self):
        for clashing in plain.NO_TUPLES:
            self.assert_invalid(0, clashing)
        for interval in (-1, 12, 10 ** 30, *plain.NO_NUMBERS):
            self.assert_invalid(0, (interval,))
            self.assert_invalid(1, (0, interval, 3))
        self.assert_invalid(1, (5, 5))
        self.assert_invalid(2, (0, 5, 4, 12))
        self.assert_invalid(12, tuple(range(13)))

    def test_other_intervals(self):
        # In the beats 0 to 3 the voices sing 60, 60, a rest, 64, twice, and 61, 61, a rest, 65.
        for clashing, expected in (((), 0), ((0,), 3), ((1,), 6), ((0, 1), 9), (DEFAULT, 6)):
            choir = made(clashing=clashing)
            choir.batch([("enter", 0), ("enter", 0), ("enter", 1)])
            self.assertEqual(choir.sing(4), expected)

    def test_default(self):
        for shift in range(12):
            choir = Choir(Melody((60, 1)))
            choir.batch([("enter", 0), ("enter", shift)])
            self.assertEqual(choir.sing(1), 1 if shift in DEFAULT else 0)


class Entering(unittest.TestCase):
    def test_numbers(self):
        choir = made()
        self.assertEqual([choir.enter(shift) for shift in (0, -24, 24, 0)], [0, 1, 2, 3])
        self.assertEqual(reading(choir), (0, [0, 1, 2, 3], 0, ["enter"] * 4))

    def test_numbers_are_not_given_twice(self):
        choir = made()
        self.assertEqual([choir.enter(0), choir.enter(0)], [0, 1])
        choir.leave(1)
        self.assertEqual(choir.enter(0), 2)
        choir.leave(0)
        choir.leave(2)
        self.assertEqual(choir.singers, [])
        self.assertEqual([choir.enter(0), choir.singers], [3, [3]])

    def test_a_voice_begins_with_the_next_beat(self):
        choir = made(clashing=(0,))
        choir.enter(0)
        choir.sing(3)
        choir.enter(4)
        # The beats 3, 4 and 5: 64, 60, 60 and 64, 64, a rest.
        self.assertEqual([choir.sing(1), choir.sing(1), choir.sing(1)], [1, 0, 0])

    def test_wrong_shifts(self):
        choir = made()
        for shift in (-25, 25, 10 ** 30, *plain.NO_NUMBERS):
            with self.subTest(shift=shift), self.assertRaises(InvalidNumber):
                choir.enter(shift)
        self.assertEqual(reading(choir), (0, [], 0, []))

    def test_shifted_pitches(self):
        choir = Choir(Melody((103, 1), (24, 1)))
        self.assertEqual([choir.enter(24), choir.enter(-24)], [0, 1])
        for pitch, shift in ((104, 24), (127, 1), (0, -1), (23, -24)):
            choir = Choir(Melody((60, 1), (pitch, 1)))
            with self.assertRaises(OutOfRange):
                choir.enter(shift)
            self.assertEqual(reading(choir), (0, [], 0, []))
        self.assertEqual(Choir(Melody((None, 1))).enter(-24), 0)

    def test_eight_voices(self):
        choir = made(clashing=(0,))
        self.assertEqual([choir.enter(0) for _ in range(8)], list(range(8)))
        with self.assertRaises(TooManyVoices):
            choir.enter(0)
        self.assertEqual(reading(choir), (0, list(range(8)), 0, ["enter"] * 8))
        self.assertEqual(choir.sing(2), 56)
        choir.leave(3)
        self.assertEqual(choir.enter(0), 8)
        self.assertEqual(choir.singers, [0, 1, 2, 4, 5, 6, 7, 8])
        with self.assertRaises(TooManyVoices):
            choir.enter(0)

    def test_numbers_before_shifted_pitches_before_too_many_voices(self):
        choir = Choir(Melody((110, 1)))
        for _ in range(8):
            choir.enter(0)
        for shift, error in ((25, InvalidNumber), (True, InvalidNumber), (18, OutOfRange),
                             (17, TooManyVoices)):
            with self.subTest(shift=shift), self.assertRaises(error):
                choir.enter(shift)


class Leaving(unittest.TestCase):
    def test_beats(self):
        choir = made()
        choir.enter(0)
        choir.sing(4)
        choir.enter(1)
        choir.sing(500)
        choir.enter(2)
        self.assertEqual([choir.leave(1), choir.leave(2), choir.leave(0)], [500, 0, 504])
        self.assertEqual(choir.singers, [])
        self.assertEqual(choir.operations[-3:], ["leave"] * 3)

    def test_others_go_on(self):
        choir = made(clashing=(0,))
        choir.batch([("enter", 0), ("sing", 1), ("enter", 12), ("enter", 0), ("sing", 3)])
        self.assertEqual(choir.clash_count, 4)
        choir.leave(1)
        # The beats 4 to 7: 60, 60, a rest, 64 and 64, 60, 60, a rest.
        self.assertEqual([choir.sing(1) for _ in range(4)], [0, 1, 0, 0])
        self.assertEqual(choir.singers, [0, 2])

    def test_unknown_voices(self):
        choir = made()
        for number in (0, 1, -1, *plain.NO_NUMBERS):
            with self.subTest(number=number), self.assertRaises(UnknownVoice):
                choir.leave(number)
        choir.enter(0)
        choir.enter(0)
        choir.enter(0)
        choir.leave(2)
        for number in (2, 3, -1, -2, 10 ** 30, *plain.NO_NUMBERS):
            with self.subTest(number=number), self.assertRaises(UnknownVoice):
                choir.leave(number)
        self.assertEqual(reading(choir), (0, [0, 1], 0, ["enter"] * 3 + ["leave"]))


class Singing(unittest.TestCase):
    def test_numbers_of_beats(self):
        choir = made()
        choir.enter(0)
        choir.enter(1)
        self.assertEqual([choir.sing(0), choir.sing(1), choir.sing(500)], [0, 1, 375])
        self.assertEqual(reading(choir)[0::2], (501, 376))
        self.assertEqual(choir.operations, ["enter"] * 2 + ["sing"] * 3)
        for beats in (-1, 501, 10 ** 30, *plain.NO_NUMBERS):
            with self.subTest(beats=beats), self.assertRaises(InvalidNumber):
                choir.sing(beats)
        self.assertEqual(reading(choir)[0::2], (501, 376))

    def test_like_a_round(self):
        melody = Melody((60, 3), (62, 1), (None, 2), (67, 4), (55, 1))
        voices = ((0, 2), (1, -7), (4, 13), (4, 0), (20, 1))
        choir = Choir(melody)
        for delay, shift in voices:
            choir.sing(delay - choir.passed)
            choir.enter(shift)
        total = choir.clash_count
        sung = Round(melody, *voices)
        for beats in (0, 1, 7, 100, 500, 500):
            total += choir.sing(beats)
            self.assertEqual(choir.clash_count, total)
            self.assertEqual(total, sung.count_clashes(choir.passed))

    def test_several_clashes_in_a_beat(self):
        choir = Choir(Melody((60, 1)), clashing=(0, 1))
        for shift in (0, 0, 1, 1, 13):
            choir.enter(shift)
        # All pairs of the five clash: by 0, 1 or 12, or 13.
        self.assertEqual(choir.sing(3), 30)


class Undoing(unittest.TestCase):
    def test_each_kind_of_operation(self):
        choir = made()
        states = [reading(choir)]
        for word, argument in (("enter", 0), ("enter", 1), ("sing", 2), ("leave", 0), ("sing", 0)):
            choir.batch([(word, argument)])
            states.append(reading(choir))
        for state in states[-2::-1]:
            self.assertIs(choir.undo(), True)
            self.assertEqual(reading(choir), state)
        self.assertIs(choir.undo(), False)
        self.assertEqual(reading(choir), states[0])
        for state in states[1:]:
            self.assertIs(choir.redo(), True)
            self.assertEqual(reading(choir), state)
        self.assertIs(choir.redo(), False)
        self.assertEqual(reading(choir), states[-1])

    def test_nothing_to_undo(self):
        choir = made()
        self.assertEqual([choir.undo(), choir.redo(), choir.undo()], [False, False, False])
        self.assertEqual(reading(choir), (0, [], 0, []))

    def test_clashes_after_undo_and_redo(self):
        choir = made()
        choir.batch([("enter", 0), ("enter", 1), ("sing", 2)])
        self.assertEqual(reading(choir)[:3], (2, [0, 1], 2))
        choir.undo()
        self.assertEqual(reading(choir)[:3], (0, [0, 1], 0))
        choir.redo()
        self.assertEqual(reading(choir)[:3], (2, [0, 1], 2))
        self.assertEqual(choir.sing(2), 1)

    def test_a_voice_that_comes_back_goes_on(self):
        choir = made()
        choir.batch([("enter", 0), ("sing", 1), ("enter", 1), ("sing", 5), ("leave", 0)])
        choir.undo()
        self.assertEqual(choir.singers, [0, 1])
        self.assertEqual(choir.leave(0), 6)
        choir.undo()
        self.assertEqual(choir.clash_count, 2)
        self.assertEqual(choir.sing(4), 1)

    def test_numbers_after_undo(self):
        choir = made()
        choir.enter(0)
        choir.enter(0)
        choir.undo()
        self.assertEqual(choir.enter(3), 1)
        choir.leave(1)
        choir.undo()
        self.assertEqual(choir.enter(0), 2)

    def test_redo_after_another_operation(self):
        for operation in (("enter", 0), ("leave", 0), ("sing", 0), ("sing", 3)):
            choir = made()
            choir.batch([("enter", 0), ("sing", 1), ("enter", 1), ("undo",), ("undo",)])
            choir.batch([operation])
            state = reading(choir)
            self.assertIs(choir.redo(), False)
            self.assertEqual(reading(choir), state)
            self.assertEqual(choir.operations, ["enter", operation[0]])

    def test_redo_after_an_error(self):
        choir = made()
        choir.batch([("enter", 0), ("sing", 3), ("undo",)])
        for call, argument in ((choir.enter, 25), (choir.leave, 1), (choir.sing, 501),
                               (choir.save, ""), (choir.restore, "x"), (choir.batch, [()]),
                               (choir.batch, [("sing", 1), ("leave", 7)])):
            with self.assertRaises(CanonError):
                call(argument)
            self.assertEqual(reading(choir), (0, [0], 0, ["enter"]))
        self.assertIs(choir.redo(), True)
        self.assertEqual(reading(choir), (3, [0], 0, ["enter", "sing"]))

    def test_redo_after_some_redone(self):
        choir = made()
        choir.batch([("sing", 1), ("sing", 2), ("sing", 4)])
        self.assertEqual([choir.undo(), choir.undo(), choir.redo()], [True, True, True])
        self.assertEqual(choir.passed, 3)
        choir.sing(8)
        self.assertEqual([choir.redo(), choir.passed], [False, 11])
        self.assertEqual([choir.undo(), choir.passed, choir.undo(), choir.passed],
                         [True, 3, True, 1])


class Snapshots(unittest.TestCase):
    def test_the_complete_state(self):
        choir = made()
        choir.batch([("enter", 0), ("sing", 3), ("enter", 1), ("sing", 4), ("undo",), ("undo",)])
        self.assertIsNone(choir.save("middle"))
        choir.batch([("leave", 0), ("enter", 5), ("enter", 6), ("sing", 9)])
        self.assertIsNone(choir.restore("middle"))
        self.assertEqual(reading(choir), (3, [0], 0, ["enter", "sing"]))
        self.assertEqual([choir.redo(), choir.redo(), choir.redo()], [True, True, False])
        # In the beats 3 to 6 the voices sing 64, 60, 60, a rest and 61, 61, a rest, 65.
        self.assertEqual(reading(choir), (7, [0, 1], 1, ["enter", "sing", "enter", "sing"]))
        self.assertEqual(choir.enter(0), 2)

    def test_undo_after_restore(self):
        choir = made()
        choir.batch([("enter", 0), ("sing", 3)])
        choir.save("a")
        choir.batch([("sing", 1), ("sing", 1), ("undo",)])
        choir.restore("a")
        # What was done after the snapshot is neither undone nor repeated.
        self.assertEqual([choir.redo(), choir.undo(), choir.passed], [False, True, 0])
        self.assertEqual([choir.undo(), choir.undo()], [True, False])
        choir.restore("a")
        self.assertEqual(reading(choir), (3, [0], 0, ["enter", "sing"]))
        self.assertIs(choir.redo(), False)

    def test_save_is_no_operation(self):
        choir = made()
        choir.batch([("sing", 1), ("sing", 2), ("undo",)])
        choir.save("a")
        self.assertEqual(choir.operations, ["sing"])
        self.assertEqual([choir.redo(), choir.passed], [True, 3])
        choir.save("b")
        self.assertEqual([choir.undo(), choir.undo(), choir.undo()], [True, True, False])

    def test_snapshots_stay(self):
        choir = made()
        choir.save("a")
        choir.sing(1)
        choir.save("b")
        choir.undo()
        choir.restore("b")
        self.assertEqual(choir.passed, 1)
        choir.restore("a")
        self.assertEqual(choir.passed, 0)
        choir.sing(5)
        choir.restore("b")
        self.assertEqual(choir.passed, 1)
        choir.restore("a")
        choir.restore("a")
        self.assertEqual(reading(choir), (0, [], 0, []))

    def test_later_operations_do_not_change_snapshots(self):
        choir = made()
        choir.batch([("sing", 1), ("sing", 2)])
        choir.save("a")
        for _ in range(2):
            choir.restore("a")
            choir.undo()
            choir.undo()
            choir.enter(0)
            choir.restore("a")
            self.assertEqual(reading(choir), (3, [], 0, ["sing", "sing"]))

    def test_a_name_used_twice(self):
        choir = made()
        choir.save("a")
        choir.sing(1)
        choir.save("b")
        choir.sing(1)
        choir.save("a")
        choir.sing(1)
        choir.restore("a")
        self.assertEqual(choir.passed, 2)
        choir.restore("b")
        self.assertEqual(choir.passed, 1)

    def test_names(self):
        choir = made()
        for name in ("a", "z", "abcdefgh", "zzzzzzzz", "aa"):
            choir.save(name)
            choir.restore(name)
        wrong = ("", "abcdefghi", "A", "aB", "a1", "1", " ", "a b", "a ", "a\n", "a_b", "\xe4",
                 "a\xdf", "\u0430", "a" * 1000, 0, 97, True, False, None, (), ("a",), [], ["a"])
        for name in wrong:
            with self.subTest(name=name), self.assertRaises(InvalidName):
                choir.save(name)
            with self.subTest(name=name), self.assertRaises(UnknownName):
                choir.restore(name)

    def test_unknown_names(self):
        choir = made()
        choir.save("ab")
        choir.sing(3)
        for name in ("a", "abc", "b", "ab ", "AB", ("ab",), ["ab"]):
            with self.subTest(name=name), self.assertRaises(UnknownName):
                choir.restore(name)
        self.assertEqual(choir.passed, 3)

    def test_choirs_have_their_own_snapshots(self):
        one = made()
        other = made()
        one.save("a")
        with self.assertRaises(UnknownName):
            other.restore("a")


class Readings(unittest.TestCase):
    def test_lists_are_new(self):
        choir = made()
        choir.batch([("enter", 0), ("enter", 1), ("sing", 1)])
        singers = choir.singers
        operations = choir.operations
        self.assertIsNot(singers, choir.singers)
        self.assertIsNot(operations, choir.operations)
        singers.append(9)
        operations.clear()
        self.assertEqual(reading(choir), (1, [0, 1], 1, ["enter", "enter", "sing"]))

    def test_lists_stay(self):
        choir = made()
        choir.enter(0)
        singers = choir.singers
        operations = choir.operations
        choir.leave(0)
        self.assertEqual((singers, operations), ([0], ["enter"]))

    def test_choirs_do_not_influence_each_other(self):
        melody = Melody(*NOTES)
        one = Choir(melody)
        other = Choir(melody)
        one.batch([("enter", 0), ("sing", 3)])
        self.assertEqual(reading(other), (0, [], 0, []))
        self.assertEqual(other.enter(1), 0)
        self.assertEqual(reading(one), (3, [0], 0, ["enter", "sing"]))


class RandomRuns(unittest.TestCase):
    def test_against_a_plain_count(self):
        rng = random.Random(12)
        for _ in range(40):
            pitches = [None, *rng.sample(range(20, 108), 3)]
            notes = [(rng.choice(pitches), rng.randint(1, 4)) for _ in range(rng.randint(1, 5))]
            clashing = tuple(sorted(rng.sample(range(12), rng.randint(0, 7))))
            choir = Choir(Melody(*notes), clashing=clashing)
            other = PlainChoir(notes, clashing)
            for _ in range(60):
                self.step(rng, choir, other)
                self.assertEqual(reading(choir), other.reading())

    def step(self, rng, choir, other):
        """Execute the same random operation on both choirs."""
        word = rng.choice(("enter", "enter", "enter", "leave", "sing", "sing", "undo", "redo",
                           "save", "restore", "batch"))
        if word in ("save", "restore"):
            name = rng.choice("abc")
            expected = getattr(other, word)(name)
            self.assert_same(expected, getattr(choir, word), name)
        elif word == "batch":
            operations = [self.operation(rng) for _ in range(rng.randint(0, 5))]
            self.assert_same(other.batch(operations), choir.batch, operations)
        else:
            word, *arguments = self.operation(rng)
            expected = other.execute(word, *arguments)
            self.assert_same(expected, getattr(choir, word), *arguments)

    def operation(self, rng):
        """Return a random operation, which may fail."""
        word = rng.choice(("enter", "enter", "enter", "leave", "sing", "sing", "undo", "redo"))
        if word in ("undo", "redo"):
            return (word,)
        least, most = {"enter": (-25, 25), "leave": (-1, 12), "sing": (-1, 12)}[word]
        return (word, rng.randint(least, most))

    def assert_same(self, expected, call, *arguments):
        """Check a result, or the name of an error."""
        if isinstance(expected, str):
            with self.assertRaises(CanonError) as caught:
                call(*arguments)
            self.assertEqual(type(caught.exception).__name__, expected)
        else:
            result = call(*arguments)
            self.assertEqual(result, expected)
            self.assertIs(type(result), type(expected))


if __name__ == "__main__":
    unittest.main()

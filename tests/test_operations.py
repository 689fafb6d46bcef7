"""Lists of operations of a choir (points 1 and 11)."""

import copy
import random
import unittest

from canonvoices.choir import Choir
from canonvoices.errors import (
    CanonError, InvalidNumber, InvalidOperation, OutOfRange, TooManyVoices, UnknownVoice,
)
from canonvoices.melodies import Melody

import plain
from plain_choir import PlainChoir

DEFAULT = (1, 2, 6, 10, 11)

NOTES = ((60, 2), (None, 1), (64, 1))

NO_LISTS = (True, False, None, 0, 1, "", "sing", (), (("sing", 1),), ("sing", 1))

# Entries that are not a tuple of a word and the right number of arguments.
MALFORMED = (
    *(True, False, None, 0, 7, "", "sing", "undo"),
    *([], ["sing", 1], ["undo"], ()),
    *(("sing",), ("enter",), ("leave",), ("sing", 1, 2), ("enter", 0, 0), ("leave", 0, None)),
    *(("undo", 1), ("redo", 0), ("undo", None), ("redo", ())),
    *(("save", "a"), ("restore", "a"), ("batch", []), ("Sing", 1), ("sing ", 1), ("", 1), ("",)),
    *((None, 1), (True, 1), (0, 1), (None,), (1,), (("sing", 1),), (("sing",), 1)),
    *((["sing"], 1), ([], 1), ([],), ((), 1)),
)

# Operations of all kinds that fail in a choir with one voice, and their errors.
FAILING = (
    (("enter", 25), InvalidNumber),
    (("enter", True), InvalidNumber),
    (("enter", None), InvalidNumber),
    (("enter", [0]), InvalidNumber),
    (("sing", 501), InvalidNumber),
    (("sing", "1"), InvalidNumber),
    (("sing", (1,)), InvalidNumber),
    (("leave", 9), UnknownVoice),
    (("leave", False), UnknownVoice),
    (("leave", None), UnknownVoice),
    (("leave", []), UnknownVoice),
)


def made():
    """Return a choir of the melody of the document's examples."""
    return Choir(Melody(*NOTES))


def reading(choir):
    """Return all that the properties of a choir tell."""
    return choir.passed, choir.singers, choir.clash_count, choir.operations


def undoing(choir):
    """Return what all undo and redo of a choir lead to, and leave it as it was."""
    choir.save("undoing")
    states = [reading(choir)]
    while choir.redo():
        states.append(reading(choir))
    while choir.undo():
        states.append(reading(choir))
    choir.restore("undoing")
    return states


class Batch(unittest.TestCase):
    def test_each_kind_of_operation(self):
        choir = made()
        operations = [("enter", 0), ("enter", 1), ("sing", 3), ("undo",), ("redo",), ("redo",),
                      ("leave", 0), ("enter", -1), ("sing", 0)]
        results = [0, 1, 2, True, True, False, 3, 2, 0]
        self.assertEqual(choir.batch(operations), results)
        words = ["enter", "enter", "sing", "leave", "enter", "sing"]
        self.assertEqual(reading(choir), (3, [1, 2], 2, words))

    def test_no_operations(self):
        choir = made()
        choir.batch([("sing", 1), ("undo",)])
        self.assertEqual(choir.batch([]), [])
        self.assertIs(choir.redo(), True)

    def test_nothing_to_undo_is_no_failure(self):
        choir = made()
        self.assertEqual(choir.batch([("undo",), ("redo",), ("sing", 2)]), [False, False, 0])
        self.assertEqual(choir.passed, 2)

    def test_operations_are_undone_one_by_one(self):
        choir = made()
        choir.batch([("sing", 1), ("sing", 2)])
        self.assertEqual([choir.undo(), choir.passed], [True, 1])
        self.assertEqual(choir.batch([("undo",), ("undo",), ("redo",)]), [True, False, True])
        self.assertEqual([choir.redo(), choir.passed, choir.redo()], [True, 3, False])

    def test_malformed_entries(self):
        good = [("enter", 0), ("undo",), ("redo",), ("sing", 1), ("leave", 0)]
        for wrong in MALFORMED:
            for place in range(len(good) + 1):
                choir = made()
                choir.batch([("sing", 3), ("sing", 4), ("undo",)])
                operations = good[:place] + [wrong] + good[place:] + [("sing",)]
                self.assert_invalid(place, choir, operations)

    def assert_invalid(self, place, choir, operations):
        before = undoing(choir)
        with self.subTest(operations=operations), self.assertRaises(InvalidOperation) as caught:
            choir.batch(operations)
        self.assertEqual(caught.exception.place, place)
        self.assertEqual(undoing(choir), before)

    def test_malformed_before_failing(self):
        choir = made()
        self.assert_invalid(2, choir, [("leave", 5), ("enter", 25), ("sing",), ()])
        self.assert_invalid(1, choir, [("sing", 501), ("undo", 1)])

    def test_no_list(self):
        for operations in NO_LISTS:
            self.assert_invalid(0, made(), operations)

    def test_failing_operations(self):
        for failing, error in FAILING:
            choir = made()
            choir.batch([("enter", 1), ("sing", 3), ("enter", 2), ("undo",)])
            before = undoing(choir)
            good = [("enter", 0), ("undo",), ("undo",), ("enter", 2), ("sing", 9), ("leave", 1)]
            for place in range(len(good) + 1):
                operations = good[:place] + [failing] + good[place:]
                with self.subTest(operations=operations), self.assertRaises(error):
                    choir.batch(operations)
                self.assertEqual(undoing(choir), before)
            # The voice that was undone before has the number 1 again.
            self.assertEqual([choir.redo(), choir.singers, choir.redo()], [True, [0, 1], False])
            self.assertEqual(choir.enter(0), 2)

    def test_numbers_of_later_voices(self):
        choir = made()
        choir.enter(0)
        with self.assertRaises(UnknownVoice):
            choir.batch([("enter", 0), ("enter", 0), ("leave", 1), ("leave", 1)])
        self.assertEqual([choir.enter(0), choir.singers], [1, [0, 1]])

    def test_errors_of_entering(self):
        choir = Choir(Melody((110, 1)))
        with self.assertRaises(TooManyVoices):
            choir.batch([("enter", 0)] * 9)
        self.assertEqual(choir.singers, [])
        with self.assertRaises(OutOfRange):
            choir.batch([("enter", 17), ("enter", 18)])
        self.assertEqual(choir.batch([("enter", 17)] * 8), list(range(8)))

    def test_snapshots_stay(self):
        choir = made()
        choir.sing(2)
        choir.save("a")
        with self.assertRaises(UnknownVoice):
            choir.batch([("undo",), ("sing", 7), ("leave", 0)])
        choir.batch([("undo",), ("sing", 7)])
        choir.restore("a")
        self.assertEqual(reading(choir), (2, [], 0, ["sing"]))

    def test_the_list_is_not_modified(self):
        for operations in ([("sing", 1), ("undo",)], [("sing", 1), ("leave", [3])], [("sing",)]):
            kept = copy.deepcopy(operations)
            try:
                made().batch(operations)
            except CanonError:
                pass
            self.assertEqual(operations, kept)

    def test_results_are_new(self):
        choir = made()
        results = choir.batch([("enter", 0)])
        results.clear()
        self.assertEqual(choir.batch([("sing", 1)]), [0])
        self.assertEqual(choir.singers, [0])


class Replay(unittest.TestCase):
    def assert_invalid(self, place, operations):
        with self.subTest(operations=operations), self.assertRaises(InvalidOperation) as caught:
            Choir.replay(Melody(*NOTES), operations)
        self.assertEqual(caught.exception.place, place)

    def test_a_new_choir(self):
        choir = Choir.replay(Melody(*NOTES), [("enter", 0), ("sing", 1), ("enter", 1), ("sing", 4)])
        self.assertIsInstance(choir, Choir)
        self.assertEqual(reading(choir), (5, [0, 1], 1, ["enter", "sing", "enter", "sing"]))
        self.assertEqual(reading(Choir.replay(Melody(*NOTES), [])), (0, [], 0, []))

    def test_default_intervals(self):
        for shift in range(12):
            choir = Choir.replay(Melody((60, 1)), [("enter", 0), ("enter", shift), ("sing", 3)])
            self.assertEqual(choir.clash_count, 3 if shift in DEFAULT else 0)

    def test_the_same_as_batch(self):
        rng = random.Random(13)
        for _ in range(200):
            operations = self.random_operations(rng)
            choir = made()
            other = PlainChoir(NOTES, DEFAULT)
            if isinstance(other.batch(operations), str):
                with self.assertRaises(CanonError):
                    choir.batch(operations)
                self.assert_invalid(self.first_failing(operations), operations)
            else:
                choir.batch(operations)
                replayed = Choir.replay(Melody(*NOTES), operations)
                self.assertEqual(reading(replayed), other.reading())
                self.assertEqual(undoing(replayed), undoing(choir))

    def random_operations(self, rng):
        """Return a list of random operations, which seldom fail."""
        operations = []
        for _ in range(rng.randint(0, 15)):
            word = rng.choice(("enter", "enter", "leave", "sing", "sing", "undo", "redo"))
            if word in ("undo", "redo"):
                operations.append((word,))
            else:
                operations.append((word, rng.randint(0, {"leave": 3}.get(word, 20))))
        return operations

    def first_failing(self, operations):
        """Return the place of the first operation that fails."""
        choir = PlainChoir(NOTES, DEFAULT)
        results = [choir.execute(*operation) for operation in operations]
        return [isinstance(result, str) for result in results].index(True)

    def test_malformed_entries(self):
        good = [("enter", 0), ("undo",), ("redo",), ("sing", 1), ("leave", 0)]
        for wrong in MALFORMED:
            for place in range(len(good) + 1):
                self.assert_invalid(place, good[:place] + [wrong] + good[place:] + [("sing",)])

    def test_failing_entries(self):
        good = [("enter", 0), ("undo",), ("redo",), ("sing", 1), ("enter", 2)]
        for failing, _ in FAILING:
            for place in range(len(good) + 1):
                self.assert_invalid(place, good[:place] + [failing] + good[place:])
        self.assert_invalid(8, [("enter", 0)] * 9)

    def test_the_first_one_that_is_malformed_or_fails(self):
        self.assert_invalid(0, [("leave", 5), ("sing",)])
        self.assert_invalid(0, [("sing",), ("leave", 5)])
        self.assert_invalid(1, [("sing", 1), ("sing", 501), (), ("leave", 0)])

    def test_shifted_pitches(self):
        with self.assertRaises(InvalidOperation) as caught:
            Choir.replay(Melody((127, 1)), [("enter", 0), ("enter", 1)])
        self.assertEqual(caught.exception.place, 1)

    def test_no_list(self):
        for operations in NO_LISTS:
            self.assert_invalid(0, operations)

    def test_the_list_is_not_modified(self):
        for operations in ([("sing", 1), ("undo",)], [("sing", 1), ("leave", [3])], [("sing",)]):
            kept = copy.deepcopy(operations)
            try:
                Choir.replay(Melody(*NOTES), operations)
            except CanonError:
                pass
            self.assertEqual(operations, kept)

    def test_choirs_do_not_influence_each_other(self):
        operations = [("enter", 0), ("sing", 1)]
        one = Choir.replay(Melody(*NOTES), operations)
        other = Choir.replay(Melody(*NOTES), operations)
        one.leave(0)
        self.assertEqual(other.singers, [0])


class Values(unittest.TestCase):
    def test_no_number_is_taken_for_one(self):
        for wrong in plain.NO_NUMBERS:
            for word in ("enter", "sing", "leave"):
                choir = made()
                choir.batch([("enter", 0), ("enter", 0)])
                error = UnknownVoice if word == "leave" else InvalidNumber
                with self.subTest(word=word, wrong=wrong), self.assertRaises(error):
                    choir.batch([(word, wrong)])


if __name__ == "__main__":
    unittest.main()

"""The examples of the document's interface."""

import unittest

from canonvoices.choir import Choir
from canonvoices.codec import decode, encode
from canonvoices.errors import (
    Contradiction, InvalidCode, InvalidMelody, InvalidOperation, OutOfRange, TextFault,
)
from canonvoices.listening import Listener
from canonvoices.melodies import Melody
from canonvoices.planning import fewest_rests, good_delays, most_voices
from canonvoices.rounds import Round


class MelodyExamples(unittest.TestCase):
    def setUp(self):
        self.melody = Melody((60, 2), (None, 1), (64, 1))

    def test_parts(self):
        melody = self.melody
        self.assertEqual(
            [len(melody), melody[2], melody(6), melody(7), 64 in melody, melody.pitches],
            [4, (64, 1), None, 64, True, (60, 64)],
        )

    def test_invalid_melody(self):
        with self.assertRaises(InvalidMelody) as caught:
            Melody((60, 2), (60, 17))
        self.assertEqual(caught.exception.index, 1)

    def test_signs(self):
        melody = self.melody
        self.assertEqual(
            [(~melody).text, (melody >> 2).text, (-melody).text, melody + melody == melody * 2],
            ["64/1 -/1 60/2", "62/2 -/1 66/1", "60/2 -/1 56/1", True],
        )

    def test_out_of_range(self):
        with self.assertRaises(OutOfRange):
            self.melody >> 64

    def test_parse(self):
        self.assertEqual(Melody.parse("60/2 -/1").notes, ((60, 2), (None, 1)))

    def test_text_fault(self):
        with self.assertRaises(TextFault) as caught:
            Melody.parse("60/2 x/1")
        self.assertEqual(caught.exception.word, 1)


class RoundExamples(unittest.TestCase):
    def setUp(self):
        self.melody = Melody((60, 2), (None, 1), (64, 1))
        self.sung = Round(self.melody, (0, 0), (1, 1))

    def test_chord(self):
        self.assertEqual([self.sung.chord(0), self.sung.chord(1)], [[60, None], [60, 61]])

    def test_clashes(self):
        self.assertEqual(list(self.sung.clashes(0, 5)), [(1, 0, 1), (5, 0, 1)])

    def test_first_clash(self):
        self.assertEqual(self.sung.first_clash(), (1, 0, 1))

    def test_count_clashes(self):
        self.assertEqual(self.sung.count_clashes(10), 3)

    def test_nth_clash(self):
        self.assertEqual(self.sung.nth_clash(3), 9)

    def test_first_difference(self):
        self.assertEqual(self.sung.first_difference(Round(self.melody, (0, 0))), 1)


class PlanningExamples(unittest.TestCase):
    def setUp(self):
        self.melody = Melody((60, 2), (None, 1), (64, 1))

    def test_good_delays(self):
        delays = [good_delays(self.melody, 0), good_delays(self.melody, 1)]
        self.assertEqual(delays, [[0, 1, 2, 3], [2]])

    def test_most_voices(self):
        self.assertEqual(most_voices(self.melody), (4, [0, 1, 2, 3]))

    def test_fewest_rests(self):
        numbers, other = fewest_rests(self.melody, 1, 1)
        self.assertEqual([numbers, other.text], [[0], "-/2 -/1 64/1"])


class ListeningExamples(unittest.TestCase):
    def setUp(self):
        self.listener = Listener(Melody((60, 2), (None, 1), (64, 1)), 1, 3)

    def test_hear(self):
        self.assertEqual(self.listener.hear(1, 61, 60), 2)

    def test_contradiction(self):
        with self.assertRaises(Contradiction):
            self.listener.hear(1, 62)

    def test_hear_all(self):
        self.assertEqual(self.listener.hear_all((1, 60, 61), (2, 61)), 1)

    def test_delays(self):
        self.listener.hear(1, 60, 61)
        self.assertEqual(self.listener.delays, [0, 1])

    def test_history(self):
        self.listener.hear(1, 61, 60)
        self.assertEqual(self.listener.history, [(1, (60, 61))])

    def test_best_beat(self):
        self.assertEqual(self.listener.best_beat(3), 1)


class CodecExamples(unittest.TestCase):
    def test_encode(self):
        melody = Melody((60, 2), (None, 1), (64, 1))
        self.assertEqual(encode(melody), [67, 3, 60, 2, 128, 1, 64, 1, 70])

    def test_decode(self):
        self.assertEqual(decode([67, 3, 60, 2, 128, 1, 64, 1, 70]).text, "60/2 -/1 64/1")

    def test_invalid_code(self):
        with self.assertRaises(InvalidCode) as caught:
            decode([67, 0])
        self.assertEqual(caught.exception.place, 1)


class ChoirExamples(unittest.TestCase):
    def setUp(self):
        self.choir = Choir(Melody((60, 2), (None, 1), (64, 1)))
        self.number = self.choir.enter(0)

    def test_enter(self):
        self.assertEqual([self.number, self.choir.enter(1)], [0, 1])

    def test_leave(self):
        self.choir.sing(3)
        self.assertEqual(self.choir.leave(0), 3)

    def test_sing(self):
        first = self.choir.sing(1)
        self.choir.enter(1)
        self.assertEqual([first, self.choir.sing(1)], [0, 1])

    def test_undo(self):
        told = [self.choir.undo(), self.choir.singers, self.choir.undo()]
        self.assertEqual(told, [True, [], False])

    def test_redo(self):
        self.choir.undo()
        self.assertEqual([self.choir.redo(), self.choir.singers], [True, [0]])

    def test_passed(self):
        self.choir.sing(9)
        self.assertEqual(self.choir.passed, 9)

    def test_singers(self):
        self.assertEqual(self.choir.singers, [0])

    def test_clash_count(self):
        self.choir.enter(1)
        self.choir.sing(2)
        self.assertEqual(self.choir.clash_count, 2)

    def test_operations(self):
        self.assertEqual(self.choir.operations, ["enter"])

    def test_save_and_restore(self):
        self.choir.save("x")
        self.choir.sing(1)
        self.choir.restore("x")
        self.assertEqual(self.choir.passed, 0)

    def test_batch(self):
        self.assertEqual(self.choir.batch([("sing", 2), ("undo",)]), [0, True])

    def test_invalid_operation(self):
        with self.assertRaises(InvalidOperation) as caught:
            self.choir.batch([("sing",)])
        self.assertEqual(caught.exception.place, 0)

    def test_replay(self):
        choir = Choir.replay(Melody((60, 2)), [("enter", 0), ("sing", 3)])
        self.assertEqual(choir.passed, 3)


if __name__ == "__main__":
    unittest.main()

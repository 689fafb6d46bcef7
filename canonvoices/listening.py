"""Listening: what the pitches that are heard tell of a delay that is not known."""

from canonvoices.checks import GREATEST, check_number
from canonvoices.errors import Contradiction, InvalidNumber
from canonvoices.melodies import Melody
from canonvoices.rounds import MAX_SHIFT, sounding

# The greatest delay that a second voice may have.
MAX_LIMIT = 500

# The greatest beat that is asked for as the best one.
MAX_BEST = 200


class Listener:
    """Hears a voice without delay and shift, and a second one with a delay that is not known."""

    def __init__(self, melody, shift, limit):
        check_number(shift, -MAX_SHIFT, MAX_SHIFT)
        check_number(limit, 0, MAX_LIMIT)
        self._first = melody
        self._second = melody >> shift
        self._delays = list(range(limit + 1))
        self._history = []

    @property
    def delays(self):
        """The ascending list of all possible delays."""
        return list(self._delays)

    @property
    def history(self):
        """The list of all accepted observations, tuples (beat, ascending tuple of pitches)."""
        return list(self._history)

    def hear(self, beat, *pitches):
        """Observe the pitches that sound in a beat; return the number of possible delays."""
        return self.hear_all((beat, *pitches))

    def hear_all(self, *chords):
        """Observe tuples (beat, pitch ..), all or none; return the number of possible delays."""
        delays = self._delays
        heard = []
        for chord in chords:
            beat, pitches = _read_chord(chord)
            delays = [delay for delay in delays if self._chord(beat, delay) == pitches]
            if not delays:
                raise Contradiction("no delay is possible")
            heard.append((beat, pitches))
        self._delays = delays
        self._history.extend(heard)
        return len(delays)

    def best_beat(self, limit):
        """Return the first beat that leaves the fewest delays in the worst case."""
        check_number(limit, 0, MAX_BEST)
        worst = [self._worst(beat) for beat in range(limit + 1)]
        return worst.index(min(worst))

    def _chord(self, beat, delay):
        """Return the ascending tuple of what sounds in a beat if the second voice has a delay."""
        first = self._first(beat)
        second = None if beat < delay else self._second(beat - delay)
        return tuple(sounding([first, second]))

    def _worst(self, beat):
        """Return the greatest number of possible delays that sound alike in a beat."""
        alike = {}
        for delay in self._delays:
            chord = self._chord(beat, delay)
            alike[chord] = alike.get(chord, 0) + 1
        return max(alike.values())


def _read_chord(chord):
    """Return the beat and the ascending tuple of the pitches of an observation."""
    if not isinstance(chord, tuple) or not chord:
        raise InvalidNumber("an observation is a tuple of a beat and of pitches")
    beat, *pitches = chord
    check_number(beat, 0, GREATEST)
    for pitch in pitches:
        check_number(pitch, 0, Melody.MAX_PITCH)
    return beat, tuple(sorted(pitches))

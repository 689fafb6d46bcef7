"""Rounds: voices that sing one melody with delays and shifts."""

from math import lcm

from canonvoices.checks import GREATEST, check_number, is_number
from canonvoices.errors import InvalidRound

# The intervals that clash if the caller names no others.
CLASHING = (1, 2, 6, 10, 11)

MAX_VOICES = 8
MAX_DELAY = 1000
MAX_SHIFT = 24

# Pitches so many steps apart sound alike: intervals are counted modulo it.
OCTAVE = 12

# So many beats after the first one is the last one that clashes are listed for.
MAX_SPAN = 499


class Round:
    """A melody and its voices, tuples (delay, shift)."""

    def __init__(self, melody, *voices, clashing=CLASHING):
        _check_voices(voices)
        check_clashing(clashing)
        self._voices = voices
        self._clashing = clashing
        self._lines = [(delay, melody >> shift) for delay, shift in voices]
        # From this beat on all voices sing, so the round repeats itself with the melody.
        self._start = max([delay for delay, _ in voices])
        self._length = len(melody)

    @property
    def voices(self):
        """The tuple of the voices."""
        return self._voices

    @property
    def clashing(self):
        """The tuple of the clashing intervals."""
        return self._clashing

    def chord(self, beat):
        """Return the list of what all voices sing in a beat."""
        check_number(beat, 0, GREATEST)
        return self._sung(beat)

    def clashes(self, first, last):
        """Yield a tuple (beat, voice, voice) for each clash from a first to a last beat."""
        check_number(first, 0, GREATEST)
        check_number(last, first - 1, min(first + MAX_SPAN, GREATEST))
        for beat in range(first, last + 1):
            for one, other in self._pairs(beat):
                yield (beat, one, other)

    def first_clash(self):
        """Return the first clash of all, or None."""
        for beat in range(self._start + self._length):
            pairs = self._pairs(beat)
            if pairs:
                one, other = pairs[0]
                return (beat, one, other)
        return None

    def count_clashes(self, beats):
        """Return the number of clashes in the first so many beats."""
        check_number(beats, 0, GREATEST)
        before, again = self._counts()
        if beats <= self._start:
            return sum(before[:beats])
        times, rest = divmod(beats - self._start, self._length)
        return sum(before) + times * sum(again) + sum(again[:rest])

    def nth_clash(self, number):
        """Return the beat of the clash with a number from 1, or None."""
        check_number(number, 1, GREATEST)
        before, again = self._counts()
        left = number - sum(before)
        if left <= 0:
            return _beat_of(before, number)
        if sum(again) == 0:
            return None
        times, rest = divmod(left - 1, sum(again))
        return self._start + times * self._length + _beat_of(again, rest + 1)

    def first_difference(self, other):
        """Return the first beat in which another round has other pitches, or None."""
        mine = self._heard()
        theirs = other._heard()
        start = max(self._start, other._start)
        for beat in range(start + lcm(self._length, other._length)):
            if mine[self._like(beat)] != theirs[other._like(beat)]:
                return beat
        return None

    def _sung(self, beat):
        """Return the list of what all voices sing in a beat."""
        return [None if beat < delay else line(beat - delay) for delay, line in self._lines]

    def _pairs(self, beat):
        """Return the pairs of voices that clash in a beat."""
        return clashing_pairs(self._sung(beat), self._clashing)

    def _counts(self):
        """Return the numbers of clashes in the beats before all voices sing, and in the next ones.

        The second list ends where the round begins to repeat itself.
        """
        counts = [len(self._pairs(beat)) for beat in range(self._start + self._length)]
        return counts[:self._start], counts[self._start:]

    def _heard(self):
        """Return the ascending pitches of each beat before the round repeats itself."""
        return [sounding(self._sung(beat)) for beat in range(self._start + self._length)]

    def _like(self, beat):
        """Return the first beat from which the round goes on as from this one."""
        if beat < self._start:
            return beat
        return self._start + (beat - self._start) % self._length


def check_clashing(clashing):
    """Raise InvalidRound unless clashing is an ascending tuple of different intervals."""
    if not isinstance(clashing, tuple):
        raise InvalidRound("clashing", 0)
    least = 0
    for at, interval in enumerate(clashing):
        if not is_number(interval, least, OCTAVE - 1):
            raise InvalidRound("clashing", at)
        least = interval + 1


def clashing_pairs(chord, clashing):
    """Return the pairs of voices of a chord whose pitches clash, in ascending order."""
    many = len(chord)
    return [
        (one, other)
        for one in range(many)
        for other in range(one + 1, many)
        if pitches_clash(chord[one], chord[other], clashing)
    ]


def _check_voices(voices):
    """Raise InvalidRound unless a round can have these voices."""
    if not voices:
        raise InvalidRound("voices", 0)
    for at, voice in enumerate(voices):
        if at == MAX_VOICES or not _is_voice(voice):
            raise InvalidRound("voices", at)


def _is_voice(value):
    """Tell whether a value is a delay and a shift."""
    if not isinstance(value, tuple) or len(value) != 2:
        return False
    delay, shift = value
    return is_number(delay, 0, MAX_DELAY) and is_number(shift, -MAX_SHIFT, MAX_SHIFT)


def pitches_clash(one, other, clashing):
    """Tell whether two voices clash by what they sing."""
    if one is None or other is None:
        return False
    return abs(one - other) % OCTAVE in clashing


def _beat_of(counts, number):
    """Return the beat of the clash with a number from 1, by the numbers of clashes in each beat."""
    beat = 0
    left = number - counts[0]
    while left > 0:
        beat += 1
        left -= counts[beat]
    return beat


def sounding(chord):
    """Return the ascending list of the pitches of a chord."""
    return sorted([pitch for pitch in chord if pitch is not None])

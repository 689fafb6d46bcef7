"""Planning: delays without clashes, many voices, and notes that must become rests."""

from canonvoices.checks import check_number
from canonvoices.errors import TooLong
from canonvoices.melodies import Melody
from canonvoices.rounds import CLASHING, MAX_DELAY, MAX_SHIFT, check_clashing, pitches_clash

# So many beats has the longest melody for which the most voices are searched.
MAX_LENGTH = 60


class Conflicts:
    """Things with numbers from 0, of which some pairs exclude each other.

    The largest sets without such a pair are searched by cases. A set is an integer with a bit for
    each of its members, so that what was found for a set is soon found again.
    """

    def __init__(self, many, pairs):
        rows = [0] * many
        for one, other in pairs:
            rows[one] |= 1 << other
            rows[other] |= 1 << one
        self._rows = rows
        self._known = {}

    def largest(self, things):
        """Return the largest ascending list of things without a pair, the first in list order."""
        left = _as_bits(things)
        taken = []
        for thing in things:
            if left >> thing & 1:
                rest = self._beside(left, thing)
                if self._most(rest) + 1 == self._most(left):
                    taken.append(thing)
                    left = rest
                else:
                    left ^= 1 << thing
        return taken

    def fewest_removed(self, things):
        """Return the fewest things without which no pair is left, the first list in list order."""
        left = _as_bits(things)
        removed = []
        for thing in things:
            rest = left ^ (1 << thing)
            # As many things as before can stay, so one less must be removed from the rest.
            if self._most(rest) == self._most(left):
                removed.append(thing)
                left = rest
        return removed

    def _beside(self, left, thing):
        """Return the members of a set that can stand beside one of them."""
        return left & ~(self._rows[thing] | (1 << thing))

    def _most(self, left):
        """Return the greatest number of members of a set without a pair."""
        if left not in self._known:
            self._known[left] = self._search(left)
        return self._known[left]

    def _search(self, left):
        """Find the greatest number of members of a set without a pair."""
        if left == 0:
            return 0
        degrees = [(_size(self._rows[thing] & left), thing) for thing in _members(left)]
        degree, thing = min(degrees)
        # What excludes one other thing at most can always be taken in the place of that one.
        if degree <= 1:
            return 1 + self._most(self._beside(left, thing))
        part = self._part(left, thing)
        # Sets that do not exclude each other are searched apart, or all their cases would multiply.
        if part != left:
            return self._most(part) + self._most(left ^ part)
        degree, thing = max(degrees)
        return max(1 + self._most(self._beside(left, thing)), self._most(left ^ (1 << thing)))

    def _part(self, left, thing):
        """Return the members of a set that a chain of pairs joins with one of them."""
        part = 0
        added = 1 << thing
        while added:
            part |= added
            reached = 0
            for member in _members(added):
                reached |= self._rows[member]
            added = reached & left & ~part
        return part


def good_delays(melody, shift, clashing=CLASHING):
    """Return the ascending list of the delays with which a second voice never clashes."""
    check_number(shift, -MAX_SHIFT, MAX_SHIFT)
    check_clashing(clashing)
    bad = _bad_delays(melody, shift, clashing)
    return [delay for delay in range(len(melody)) if delay not in bad]


def most_voices(melody, clashing=CLASHING):
    """Return the greatest number of voices that never clash, and the list of their delays."""
    check_clashing(clashing)
    length = len(melody)
    if length > MAX_LENGTH:
        raise TooLong(f"the melody has more than {MAX_LENGTH} beats")
    bad = _bad_delays(melody, 0, clashing)
    good = [delay for delay in range(1, length) if delay not in bad]
    # Both voices repeat the melody for ever, so only the difference of their delays matters.
    pairs = [(one, other) for one in good for other in good if one < other and other - one in bad]
    later = Conflicts(length, pairs).largest(good)
    delays = [0, *later]
    return len(delays), delays


def fewest_rests(melody, delay, shift, clashing=CLASHING):
    """Return the fewest notes that must become rests for a second voice, and the new melody."""
    check_number(delay, 0, MAX_DELAY)
    check_number(shift, -MAX_SHIFT, MAX_SHIFT)
    check_clashing(clashing)
    notes = melody.notes
    # Both voices repeat the melody for ever, so they meet as with a delay below its length.
    late = delay % len(melody)
    meetings = _clashing_meetings(melody, shift, clashing)
    pairs = [(one, other) for one, other, after in meetings if after == late]
    numbers = _fewest_notes(len(notes), pairs)
    kept = [(None if at in numbers else pitch, beats) for at, (pitch, beats) in enumerate(notes)]
    return numbers, Melody(*kept)


def _fewest_notes(many, pairs):
    """Return the fewest of many notes without which no pair of notes clashes."""
    alone = {one: True for one, other in pairs if one == other}
    others = [at for at in range(many) if at not in alone]
    removed = Conflicts(many, pairs).fewest_removed(others)
    return sorted(list(alone) + removed)


def _bad_delays(melody, shift, clashing):
    """Return the delays below the length with which a second voice clashes, as keys of a dict."""
    return {delay: True for _, _, delay in _clashing_meetings(melody, shift, clashing)}


def _clashing_meetings(melody, shift, clashing):
    """Return a tuple (note, other note, delay) for all clashes of a first and a second voice.

    The first note is that of the first voice, the other one that of the second voice, which has
    the shift and the delay; all delays below the length of the melody are told.
    """
    second = melody >> shift
    spans = _spans(melody)
    found = []
    for one, (low, _) in enumerate(melody.notes):
        for other, (high, _) in enumerate(second.notes):
            if pitches_clash(low, high, clashing):
                delays = _meeting_delays(spans[one], spans[other], len(melody))
                found.extend([(one, other, delay) for delay in delays])
    return found


def _spans(melody):
    """Return the first and the last beat of each note."""
    spans = []
    start = 0
    for _, beats in melody.notes:
        spans.append((start, start + beats - 1))
        start += beats
    return spans


def _meeting_delays(span, other, length):
    """Return the delays below the length with which two spans of beats sound together."""
    first, last = span
    other_first, other_last = other
    # A beat of the first voice meets that of the second one from which the delay leads to it.
    return [delay % length for delay in range(first - other_last, last - other_first + 1)]


def _as_bits(things):
    """Return the set of things of a list."""
    return sum([1 << thing for thing in things])


def _members(left):
    """Return the ascending list of the members of a set."""
    return [thing for thing in range(left.bit_length()) if left >> thing & 1]


def _size(left):
    """Return the number of members of a set."""
    digits = f"{left:b}"
    return digits.count("1")

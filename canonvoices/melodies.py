"""Melodies: notes that voices sing again and again."""

from canonvoices.checks import GREATEST, check_number, is_number
from canonvoices.errors import InvalidMelody, OutOfRange, TextFault

# The method isdigit would also accept digits of other scripts.
DIGITS = "0123456789"


class Melody:
    """A melody of notes, tuples (pitch, beats); a rest has the pitch None."""

    MAX_NOTES = 32
    MAX_BEATS = 16
    MAX_PITCH = 127

    def __init__(self, *notes):
        _check_notes(notes)
        self._notes = notes
        # One pitch for each beat: a melody is asked for beats far more often than it is made.
        self._line = tuple([pitch for pitch, beats in notes for _ in range(beats)])

    @classmethod
    def parse(cls, text):
        """Return the melody of a text."""
        notes = _read_notes(text)
        return cls(*notes)

    @property
    def notes(self):
        """The tuple of the notes."""
        return self._notes

    @property
    def pitches(self):
        """The ascending tuple of all different pitches."""
        return tuple(sorted({pitch for pitch in self._line if pitch is not None}))

    @property
    def text(self):
        """The text of the melody, a word for each note."""
        return " ".join([_word(pitch, beats) for pitch, beats in self._notes])

    def __len__(self):
        return len(self._line)

    def __getitem__(self, at):
        check_number(at, 0, len(self._notes) - 1)
        return self._notes[at]

    # Without this method, Python would walk a melody by its items.
    def __iter__(self):
        raise TypeError("a melody is not walked")

    def __call__(self, beat):
        check_number(beat, 0, GREATEST)
        return self._line[beat % len(self._line)]

    def __contains__(self, x):
        return _is_pitch(x) and x in self._line

    def __bool__(self):
        return any([pitch is not None for pitch in self._line])

    def __eq__(self, other):
        return isinstance(other, Melody) and self._notes == other._notes

    def __add__(self, other):
        # InvalidMelody is the error that is listed for this sign.
        if not isinstance(other, Melody):
            raise InvalidMelody(Melody.MAX_NOTES)
        notes = self._notes + other._notes
        return Melody(*notes)

    def __mul__(self, other):
        check_number(other, 1, Melody.MAX_NOTES)
        notes = self._notes * other
        return Melody(*notes)

    def __invert__(self):
        notes = self._notes[::-1]
        return Melody(*notes)

    def __rshift__(self, other):
        check_number(other, -Melody.MAX_PITCH, Melody.MAX_PITCH)
        notes = _moved_notes(self._notes, 1, other)
        return Melody(*notes)

    def __neg__(self):
        sung = [pitch for pitch in self._line if pitch is not None]
        # A pitch as far on the other side of the first one is twice the first one less the pitch.
        double = 2 * sung[0] if sung else 0
        notes = _moved_notes(self._notes, -1, double)
        return Melody(*notes)


def _is_pitch(value):
    """Tell whether a value is a pitch; None is not one."""
    return is_number(value, 0, Melody.MAX_PITCH)


def _is_note(value):
    """Tell whether a value is a note or a rest."""
    if not isinstance(value, tuple) or len(value) != 2:
        return False
    pitch, beats = value
    return (pitch is None or _is_pitch(pitch)) and is_number(beats, 1, Melody.MAX_BEATS)


def _check_notes(notes):
    """Raise InvalidMelody unless a melody can have these notes."""
    if not notes:
        raise InvalidMelody(0)
    for at, note in enumerate(notes):
        if at == Melody.MAX_NOTES or not _is_note(note):
            raise InvalidMelody(at)


def _moved_pitch(pitch, sign, steps):
    """Return a pitch times a sign plus some steps; a rest stays a rest."""
    if pitch is None:
        return None
    moved = sign * pitch + steps
    if not _is_pitch(moved):
        raise OutOfRange("a pitch would be too low or too high")
    return moved


def _moved_notes(notes, sign, steps):
    """Return notes with moved pitches and the same beats."""
    return [(_moved_pitch(pitch, sign, steps), beats) for pitch, beats in notes]


def _word(pitch, beats):
    """Return the word of a note in the text of a melody."""
    if pitch is None:
        return f"-/{beats}"
    return f"{pitch}/{beats}"


def _is_numeral(text, most):
    """Tell whether a text is one to so many digits without leading zeros."""
    if len(text) < 1 or len(text) > most:
        return False
    if any([sign not in DIGITS for sign in text]):
        return False
    return len(text) == 1 or text[0] != "0"


def _is_word(word):
    """Tell whether a word of a text has the form of a note."""
    # Without a slash the beats are empty, and no numeral.
    pitch, _, beats = word.partition("/")
    return (pitch == "-" or _is_numeral(pitch, 3)) and _is_numeral(beats, 2)


def _read_note(word):
    """Return the note of a word that has the form of one."""
    pitch, _, beats = word.partition("/")
    return (None if pitch == "-" else int(pitch), int(beats))


def _read_notes(text):
    """Return the notes of a text; they may be out of their ranges."""
    if not isinstance(text, str):
        raise TextFault(0)
    words = text.split(" ")
    for at, word in enumerate(words):
        if not _is_word(word):
            raise TextFault(at)
    return [_read_note(word) for word in words]

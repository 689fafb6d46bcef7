"""Bytes: melodies as lists of integers from 0 to 255."""

from canonvoices.checks import is_number
from canonvoices.errors import InvalidCode
from canonvoices.melodies import Melody

# The first byte of each melody.
MARK = 67

# The byte that stands for the pitch of a rest, one more than the greatest pitch.
REST = 128

# A checksum is less than it.
MODULUS = 256


def encode(melody):
    """Return the list of the bytes of a melody."""
    notes = melody.notes
    code = [MARK, len(notes)]
    for pitch, beats in notes:
        code.extend([REST if pitch is None else pitch, beats])
    return [*code, _checksum(code)]


def decode(code):
    """Return the melody of a list of bytes."""
    if not isinstance(code, list):
        raise InvalidCode(0)
    _check_byte(code, 0, MARK, MARK)
    _check_byte(code, 1, 1, Melody.MAX_NOTES)
    end = 2 + 2 * code[1]
    for place in range(2, end, 2):
        _check_byte(code, place, 0, REST)
        _check_byte(code, place + 1, 1, Melody.MAX_BEATS)
    told = _checksum(code[:end])
    _check_byte(code, end, told, told)
    if len(code) > end + 1:
        raise InvalidCode(end + 1)
    notes = [_read_note(code, place) for place in range(2, end, 2)]
    return Melody(*notes)


def _checksum(code):
    """Return the checksum of all bytes before it."""
    return sum(code) % MODULUS


def _check_byte(code, place, low, high):
    """Raise InvalidCode unless there is a byte from low to high at a place."""
    if place >= len(code) or not is_number(code[place], low, high):
        raise InvalidCode(place)


def _read_note(code, place):
    """Return the note whose pitch has a place."""
    pitch = code[place]
    return (None if pitch == REST else pitch, code[place + 1])

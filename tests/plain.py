"""What the document says of melodies and rounds, counted beat by beat, without the package."""

# Values of all kinds that callers may pass where an error is listed, none of them a number.
NO_NUMBERS = (True, False, None, "", "1", (), (1,), (1, 2), [], [1], [1, 2])

# Values of all kinds that callers may pass where an error is listed, none of them a tuple.
NO_TUPLES = (True, False, None, 0, 1, 60, "", "60/2", [], [60, 2], [1, 2])


def line(notes):
    """Return the list of what sounds in each beat of notes."""
    beats = []
    for pitch, many in notes:
        beats.extend([pitch] * many)
    return beats


def chord(notes, voices, beat):
    """Return the list of what voices sing in a beat."""
    sung = []
    beats = line(notes)
    for delay, shift in voices:
        pitch = None
        if beat >= delay:
            pitch = beats[(beat - delay) % len(beats)]
        sung.append(None if pitch is None else pitch + shift)
    return sung


def clashes(notes, voices, clashing, first, last):
    """Return the list of all clashes from a first to a last beat."""
    found = []
    for beat in range(first, last + 1):
        sung = chord(notes, voices, beat)
        for one in range(len(sung)):
            for other in range(one + 1, len(sung)):
                pitches = [sung[one], sung[other]]
                if None not in pitches and (max(pitches) - min(pitches)) % 12 in clashing:
                    found.append((beat, one, other))
    return found


def heard(notes, voices, beat):
    """Return the ascending list of the pitches that sound in a beat."""
    return sorted(pitch for pitch in chord(notes, voices, beat) if pitch is not None)


def is_integer(value):
    """Tell whether a value is an integer; True and False are none."""
    return isinstance(value, int) and not isinstance(value, bool)

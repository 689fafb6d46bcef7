"""The errors that the package raises."""


class CanonError(ValueError):
    """The base class of all errors of the package."""


class InvalidMelody(CanonError):
    """A melody has no notes, too many, or an invalid one at an index."""

    def __init__(self, index):
        super().__init__(f"the note with the index {index} is invalid")
        self.index = index


class InvalidRound(CanonError):
    """A part of a round, "voices" or "clashing", is invalid at an index."""

    def __init__(self, part, index):
        super().__init__(f"{part}: what has the index {index} is invalid")
        self.part = part
        self.index = index


class OutOfRange(CanonError):
    """A pitch would not be one that a melody can have."""


class InvalidNumber(CanonError):
    """A number is not an integer in its range."""


class TooLong(CanonError):
    """A melody has too many beats."""


class TextFault(CanonError):
    """A word of the text of a melody is malformed."""

    def __init__(self, word):
        super().__init__(f"the word with the number {word} is malformed")
        self.word = word


class InvalidCode(CanonError):
    """The bytes of a melody are wrong at a place."""

    def __init__(self, place):
        super().__init__(f"the byte at the place {place} is wrong")
        self.place = place


class Contradiction(CanonError):
    """No delay would be possible after an observation."""


class UnknownVoice(CanonError):
    """No voice with this number sings."""


class TooManyVoices(CanonError):
    """No further voice can enter a choir."""


class InvalidName(CanonError):
    """A name of a snapshot is malformed."""


class UnknownName(CanonError):
    """There is no snapshot of this name."""


class InvalidOperation(CanonError):
    """An operation of a list is malformed, or fails, at a place."""

    def __init__(self, place):
        super().__init__(f"the operation at the place {place} is invalid")
        self.place = place

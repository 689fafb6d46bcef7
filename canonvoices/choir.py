"""Choirs: voices that enter, sing and leave beat by beat, with undo, snapshots and batches."""

from canonvoices.checks import check_number, is_number
from canonvoices.errors import CanonError, InvalidName, InvalidOperation, TooManyVoices, UnknownName, UnknownVoice
from canonvoices.rounds import CLASHING, MAX_SHIFT, MAX_VOICES, check_clashing, clashing_pairs

# So many beats may pass at once.
MAX_SUNG = 500

# The letters and the length of the names of snapshots.
LETTERS = "abcdefghijklmnopqrstuvwxyz"
MAX_LETTERS = 8

# How many arguments each kind of operation has in a list of operations.
ARGUMENTS = {"enter": 1, "leave": 1, "sing": 1, "undo": 0, "redo": 0}


class Choir:
    """A melody and the voices that sing it, beat by beat.

    A state is a tuple of the number of beats that have passed, the number of clashes in them, the
    number of voices that have entered, and the voices that sing: tuples of the number of the
    voice, the beat with which it began, and the melody as it sings it.
    """

    def __init__(self, melody, *, clashing=CLASHING):
        check_clashing(clashing)
        self._melody = melody
        self._clashing = clashing
        # The state before all operations, and the one after each: states never change, so undo
        # and redo only tell which of them is the present one.
        self._states = [(0, 0, 0, ())]
        self._words = []
        self._done = 0
        self._snapshots = {}

    @classmethod
    def replay(cls, melody, operations):
        """Return a new choir after executing a list of operations."""
        _check_list(operations)
        choir = cls(melody)
        for place, operation in enumerate(operations):
            _check_operation(operation, place)
            try:
                choir._execute(operation)
            except CanonError:
                raise InvalidOperation(place) from None
        return choir

    @property
    def passed(self):
        """The number of beats that have passed."""
        passed, _, _, _ = self._state()
        return passed

    @property
    def singers(self):
        """The ascending list of the numbers of all voices that sing."""
        _, _, _, voices = self._state()
        return [number for number, _, _ in voices]

    @property
    def clash_count(self):
        """The number of clashes so far."""
        _, clashed, _, _ = self._state()
        return clashed

    @property
    def operations(self):
        """The list of the words of all operations in effect, in order."""
        return self._words[:self._done]

    def enter(self, shift):
        """Let a voice begin with the next beat; return its number."""
        check_number(shift, -MAX_SHIFT, MAX_SHIFT)
        song = self._melody >> shift
        passed, clashed, entered, voices = self._state()
        if len(voices) == MAX_VOICES:
            raise TooManyVoices(f"{MAX_VOICES} voices sing already")
        voice = (entered, passed, song)
        self._go_on("enter", (passed, clashed, entered + 1, (*voices, voice)))
        return entered

    def leave(self, number):
        """Let a voice end; return for how many beats it has sung."""
        passed, clashed, entered, voices = self._state()
        singers = self.singers
        if not is_number(number, 0, entered - 1) or number not in singers:
            raise UnknownVoice("no voice with this number sings")
        at = singers.index(number)
        _, start, _ = voices[at]
        self._go_on("leave", (passed, clashed, entered, voices[:at] + voices[at + 1:]))
        return passed - start

    def sing(self, beats):
        """Let beats pass; return the number of clashes in them."""
        check_number(beats, 0, MAX_SUNG)
        passed, clashed, entered, voices = self._state()
        last = passed + beats
        clashes_now = sum([self._clashes_in(voices, beat) for beat in range(passed, last)])
        self._go_on("sing", (last, clashed + clashes_now, entered, voices))
        return clashes_now

    def undo(self):
        """Undo the last operation in effect; return whether there was one."""
        if self._done == 0:
            return False
        self._done -= 1
        return True

    def redo(self):
        """Repeat the operation that was undone last; return whether there was one."""
        if self._done == len(self._words):
            return False
        self._done += 1
        return True

    def save(self, name):
        """Save the complete state under a name."""
        if not _is_name(name):
            raise InvalidName(f"a name has one to {MAX_LETTERS} letters a to z")
        self._snapshots[name] = self._complete()

    def restore(self, name):
        """Restore the complete state that was saved under a name."""
        # What is no string may be a list, which a dict cannot be asked for.
        if not isinstance(name, str) or name not in self._snapshots:
            raise UnknownName("there is no snapshot of this name")
        self._return_to(self._snapshots[name])

    def batch(self, operations):
        """Execute a list of operations, all or none; return the list of their results."""
        _check_list(operations)
        for place, operation in enumerate(operations):
            _check_operation(operation, place)
        before = self._complete()
        try:
            return [self._execute(operation) for operation in operations]
        except CanonError:
            self._return_to(before)
            raise

    def _state(self):
        """Return the present state."""
        return self._states[self._done]

    def _go_on(self, word, state):
        """Add an operation and the state after it; operations that were undone are forgotten."""
        del self._words[self._done:]
        del self._states[self._done + 1:]
        self._words.append(word)
        self._states.append(state)
        self._done += 1

    def _complete(self):
        """Return the complete state: all that undo and redo need, too."""
        return list(self._states), list(self._words), self._done

    def _return_to(self, complete):
        """Take a complete state, which may be taken again later."""
        states, words, done = complete
        self._states = list(states)
        self._words = list(words)
        self._done = done

    def _clashes_in(self, voices, beat):
        """Return the number of clashes of voices in a beat."""
        chord = [song(beat - start) for _, start, song in voices]
        return len(clashing_pairs(chord, self._clashing))

    def _execute(self, operation):
        """Execute an operation of a list; return its result."""
        word = operation[0]
        if word == "undo":
            return self.undo()
        if word == "redo":
            return self.redo()
        argument = operation[1]
        if word == "enter":
            return self.enter(argument)
        if word == "leave":
            return self.leave(argument)
        return self.sing(argument)


def _is_name(value):
    """Tell whether a value is a name for a snapshot."""
    if not isinstance(value, str) or len(value) < 1 or len(value) > MAX_LETTERS:
        return False
    return all([sign in LETTERS for sign in value])


def _check_list(operations):
    """Raise InvalidOperation unless operations are a list."""
    if not isinstance(operations, list):
        raise InvalidOperation(0)


def _check_operation(operation, place):
    """Raise InvalidOperation unless an operation is a tuple of a word and its arguments."""
    if not isinstance(operation, tuple) or not operation:
        raise InvalidOperation(place)
    word = operation[0]
    # What is no string may be a list, which a dict cannot be asked for.
    if not isinstance(word, str) or word not in ARGUMENTS:
        raise InvalidOperation(place)
    if len(operation) != 1 + ARGUMENTS[word]:
        raise InvalidOperation(place)

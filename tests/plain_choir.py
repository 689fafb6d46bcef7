"""A choir as the document tells of it, counted anew from its operations for each answer."""

import plain


class PlainChoir:
    """Keeps the operations in effect and those undone, and counts each beat for each answer."""

    def __init__(self, notes, clashing):
        self.notes = notes
        self.clashing = clashing
        self.done = []
        self.undone = []
        self.saved = {}

    def told(self):
        """Return passed, the voices that sing with number, beginning and shift, and all clashes."""
        passed = 0
        entered = 0
        voices = []
        clashes = 0
        for word, argument in self.done:
            if word == "enter":
                voices.append((entered, passed, argument))
                entered += 1
            elif word == "leave":
                voices = [voice for voice in voices if voice[0] != argument]
            else:
                sung = [(start, shift) for _, start, shift in voices]
                last = passed + argument - 1
                clashes += len(plain.clashes(self.notes, sung, self.clashing, passed, last))
                passed += argument
        return passed, voices, clashes, entered

    def reading(self):
        """Return what the properties passed, singers, clash_count and operations return."""
        passed, voices, clashes, _ = self.told()
        return passed, [voice[0] for voice in voices], clashes, [word for word, _ in self.done]

    def execute(self, word, *arguments):
        """Execute an operation; return its result, or the name of its error."""
        passed, voices, clashes, entered = self.told()
        if word == "undo":
            if self.done:
                self.undone.append(self.done.pop())
                return True
            return False
        if word == "redo":
            if self.undone:
                self.done.append(self.undone.pop())
                return True
            return False
        argument = arguments[0]
        wrong = self.error(word, argument, voices)
        if wrong:
            return wrong
        self.done.append((word, argument))
        self.undone = []
        if word == "enter":
            return entered
        if word == "leave":
            return passed - [start for number, start, _ in voices if number == argument][0]
        return self.told()[2] - clashes

    def error(self, word, argument, voices):
        """Return the name of the error of an operation, or None."""
        if word == "leave":
            known = plain.is_integer(argument) and argument in [voice[0] for voice in voices]
            return None if known else "UnknownVoice"
        low, high = (0, 500) if word == "sing" else (-24, 24)
        if not plain.is_integer(argument) or not low <= argument <= high:
            return "InvalidNumber"
        if word == "enter":
            pitches = [pitch + argument for pitch, _ in self.notes if pitch is not None]
            if pitches and (min(pitches) < 0 or max(pitches) > 127):
                return "OutOfRange"
            if len(voices) == 8:
                return "TooManyVoices"
        return None

    def batch(self, operations):
        """Execute operations, all or none; return their results, or the name of an error."""
        kept = (list(self.done), list(self.undone))
        results = []
        for operation in operations:
            result = self.execute(*operation)
            if isinstance(result, str):
                self.done, self.undone = kept
                return result
            results.append(result)
        return results

    def save(self, name):
        """Save what was done and undone."""
        self.saved[name] = (list(self.done), list(self.undone))

    def restore(self, name):
        """Restore what was done and undone."""
        if name not in self.saved:
            return "UnknownName"
        done, undone = self.saved[name]
        self.done = list(done)
        self.undone = list(undone)
        return None

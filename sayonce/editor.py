"""An editor of a system of number words, which takes back changes and makes them again (part I)."""

from sayonce.ambiguity import conflict, least_meaning, with_row
from sayonce.coverage import first_double, first_gap
from sayonce.derivations import UnknownWord, index_of
from sayonce.errors import SayError
from sayonce.systems import System


class EditorError(SayError):
    """A change that cannot be made: the word that it is about, or None."""

    def __init__(self, word):
        self.word = word


class OtherKind(EditorError):
    """The word is a multiplier where a simple word is set, or the other way round."""


class NotThere(EditorError):
    """The system does not have the word that is to be taken away."""


class NothingLeft(EditorError):
    """There is nothing to undo, or to redo."""


def with_word(rows, changed):
    """The rows with this one in the place of the one with its word, or behind them if there is none."""
    if changed[0] in [row[0] for row in rows]:
        return with_row(rows, changed)
    return [*rows, changed]


def without_word(rows, word):
    """The rows but the one with this word."""
    return [row for row in rows if row[0] != word]


class Editor:
    """Makes changes to a system, one after the other."""

    def __init__(self, system):
        # Each change has the system that it made; those from _done on were taken back.
        self._begun = system
        self._changes = []
        self._done = 0

    def system(self):
        """The present system."""
        return self._changes[self._done - 1][1] if self._done > 0 else self._begun

    def journal(self):
        """The changes that stand, each a tuple of the method's name and its arguments."""
        return tuple([entry for entry, _ in self._changes[:self._done]])

    def set_simple(self, word, value):
        """Makes the word a simple one with this value; raises OtherKind and BadSystem."""
        present = self.system()
        if present.multiplier(word) is not None:
            raise OtherKind(word)
        changed = System(with_word(present.simple, (word, value)), present.multipliers)
        return self._change(("set_simple", word, value), changed)

    def set_multiplier(self, word, value, count, unsaid, rest):
        """Makes the word a multiplier; raises OtherKind and BadSystem."""
        present = self.system()
        if present.simple_value(word) is not None:
            raise OtherKind(word)
        row = (word, value, count, unsaid, rest)
        changed = System(present.simple, with_word(present.multipliers, row))
        return self._change(("set_multiplier",) + row, changed)

    def remove(self, word):
        """Takes the word away; raises NotThere."""
        present = self.system()
        if word not in present.words():
            raise NotThere(word)
        changed = System(without_word(present.simple, word), without_word(present.multipliers, word))
        return self._change(("remove", word), changed)

    def undo(self):
        """Takes back the last change that stands; raises NothingLeft."""
        if self._done == 0:
            raise NothingLeft(None)
        self._done -= 1
        return self._many()

    def redo(self):
        """Makes the change again that was taken back last; raises NothingLeft."""
        if self._done == len(self._changes):
            raise NothingLeft(None)
        self._done += 1
        return self._many()

    def grade(self, number, phrase):
        """The grade of a phrase as an answer for a number, and the number that it is one for, or None."""
        present = self.system()
        try:
            index = index_of(present, number, phrase)
        except UnknownWord:
            return "invalid", None
        if index is not None:
            return ("first" if index == 0 else "alternative"), number
        least = least_meaning(present, phrase)
        return ("invalid" if least is None else "wrong"), least

    def check(self):
        """The words of the first conflict, the first number that cannot be said, the first that has two derivations."""
        present = self.system()
        found = conflict(present)
        words = None if found is None else found[:2]
        return words, first_gap(present), first_double(present)

    def _change(self, entry, changed):
        """Lets a change stand behind the others; what was taken back is gone."""
        del self._changes[self._done:]
        self._changes.append((entry, changed))
        self._done += 1
        return self._many()

    def _many(self):
        """How many words the present system has."""
        return len(self.system().words())


def replayed(system, commands):
    """An editor that begins with the system and on which the changes of a journal were made."""
    editor = Editor(system)
    for name, word, *more in commands:
        if name == "set_simple":
            editor.set_simple(word, *more)
        elif name == "set_multiplier":
            editor.set_multiplier(word, *more)
        else:
            editor.remove(word)
    return editor

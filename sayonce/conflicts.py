"""Two systems: what they have in common, and the conflicts from the one to the other (part G)."""

from sayonce.errors import SayError
from sayonce.systems import is_spoken
from sayonce.ways import Ways


class Mismatch(SayError):
    """Two systems that define a word differently: the first such word."""

    def __init__(self, word):
        self.word = word


def mismatch(first, second):
    """The first word, in the order of the first system, that the systems define differently, or None."""
    for word, value in first.simple:
        if second.multiplier(word) is not None or second.simple_value(word) not in (None, value):
            return word
    for row in first.multipliers:
        other = second.multiplier(row[0])
        if second.simple_value(row[0]) is not None or (other is not None and other[1] != row[1]):
            return row[0]
    return None


def lesser_count(one, other):
    """The lesser one of two greatest counts, of which None is without end."""
    if one is None or other is None:
        return other if one is None else one
    return min(one, other)


def common_multiplier(row, other):
    """A multiplier of the common system, by its tuples in both systems."""
    word, value, most, unsaid, rest = row
    _, _, other_most, other_unsaid, other_rest = other
    least = 1 if unsaid == other_unsaid else 2
    return word, value, least, lesser_count(most, other_most), unsaid and other_unsaid, min(rest, other_rest)


def common_system(first, second):
    """The pair of the simple words and of the multipliers of the common system; raises Mismatch."""
    word = mismatch(first, second)
    if word is not None:
        raise Mismatch(word)
    simple = [row for row in first.simple if second.simple_value(row[0]) is not None]
    pairs = [(row, second.multiplier(row[0])) for row in first.multipliers]
    rows = [common_multiplier(row, other) for row, other in pairs if other is not None]
    return tuple(simple), tuple(rows)


class Passage:
    """From a first to a second system, with what they have in common."""

    def __init__(self, first, second):
        """Raises Mismatch."""
        self._first = first
        self._second = second
        self._simple, self._rows = common_system(first, second)
        self._ways = Ways(self._simple, self._rows)

    def conflicts(self):
        """The list of all conflicts, in order."""
        found = []
        for row in self._rows:
            x = self._first_count(row)
            if x is not None:
                for other in self._rows:
                    found.extend([(row[0], other[0], x, m) for m in self._middles(row, x, other)])
        return found

    def phrase(self, conflict):
        """The phrase of a conflict."""
        first, second, x, m = conflict
        # Of 0 nothing is said.
        return self._ways.phrase_of(x, 0) + (first,) + self._ways.phrase_of(m, 0) + (second,)

    def numbers(self, conflict):
        """The pair of what the phrase of a conflict means in the first and in the second system."""
        first, second, x, m = conflict
        opening = max(x, 1) * self._first.multiplier(first)[1]
        value = self._first.multiplier(second)[1]
        return opening + max(m, 1) * value, (opening + m) * value

    def _first_count(self, row):
        """X of the conflicts with this multiplier as P, or None if it has none."""
        _, _, least, most, unsaid, _ = row
        if unsaid:
            return 0
        # The least number from 1 on, or from 2 on, that has a common derivation is the value of a word: without
        # its rest a number would be less, and a count above 1 would be such a number itself.
        counts = [known[1] for known in self._simple + self._rows]
        x = min([count for count in counts if count >= least and self._ways.many_of(count) > 0], default=None)
        return None if x is None or (most is not None and x > most) else x

    def _middles(self, row, x, other):
        """All M of the conflicts with these two multipliers of the common system and X, ascending."""
        word, value = other[0], other[1]
        opening = max(x, 1) * row[1]
        before = self._first.multiplier(word)
        after = self._second.multiplier(word)
        last = self._first.multiplier(row[0])[4] // value
        if last == 0:
            return []
        last = min(last, row[5])
        if after[2] is not None:
            last = min(last, after[2] - opening)
        found = [0] if before[3] and last >= 0 else []
        found.extend([m for m in range(1, last + 1) if is_spoken(before, m) and self._ways.many_of(m) > 0])
        return found


def conflicts(first, second):
    """The tuple of the conflicts from the first to the second system, in order; raises Mismatch."""
    return tuple(Passage(first, second).conflicts())


def first_conflict(first, second):
    """The first conflict from the first to the second system, or None; raises Mismatch."""
    found = Passage(first, second).conflicts()
    return found[0] if found else None

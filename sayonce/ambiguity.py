"""Phrases that mean two numbers, and the conflicts that they come from (part D)."""

from sayonce.derivations import check_phrase, phrase_at
from sayonce.errors import SayError
from sayonce.systems import GREATEST
from sayonce.ways import Chart, least_number, ways_of


class NotMultiplier(SayError):
    """A word is no multiplier of the system, or no word of it."""


def multiplier_of(system, word):
    """The tuple of a multiplier; raises NotMultiplier."""
    row = system.multiplier(word)
    if row is None:
        raise NotMultiplier("the word is no multiplier of the system")
    return row


class Pair:
    """Two multipliers, the first one P and the second one Q, with X and the least M that a conflict could have.

    Both are 0 where the one is unsaid, and otherwise the least number of the system; None if there is none.
    """

    def __init__(self, least, first, second):
        self.first = first
        self.second = second
        self.x = 0 if first[3] else least
        self.m = 0 if second[3] else least

    def first_count(self):
        """X, or 1 for the unsaid one: the count of P that is needed."""
        return max(self.x, 1)

    def middle_count(self):
        """M, or 1 for the unsaid one."""
        return max(self.m, 1)

    def opening(self):
        """X times P."""
        return self.first_count() * self.first[1]

    def rest_needed(self):
        """M times Q, which is not above the rest of P in a conflict."""
        return self.middle_count() * self.second[1]

    def count_needed(self):
        """X times P plus M, which is a count of Q in a conflict."""
        return self.opening() + self.m

    def conflicts(self):
        """True if X and the least M make a conflict; if they do not, no other M does."""
        if self.x is None or self.m is None:
            return False
        _, _, first_most, _, first_rest = self.first
        second_most = self.second[2]
        if first_most is not None and self.first_count() > first_most:
            return False
        if second_most is not None and self.count_needed() > second_most:
            return False
        return self.rest_needed() <= first_rest


def conflicting_pairs(least, rows):
    """The pairs of multipliers that conflict, in order."""
    pairs = [Pair(least, first, second) for first in rows for second in rows]
    return [pair for pair in pairs if pair.conflicts()]


def part_phrase(system, part):
    """The phrase of the first derivation of a number; nothing for 0."""
    return () if part == 0 else phrase_at(system, part, 0)


def conflict(system):
    """The first conflict with its phrase and its two numbers, or None."""
    pairs = conflicting_pairs(least_number(system), system.multipliers)
    if not pairs:
        return None
    pair = pairs[0]
    first, second = pair.first[0], pair.second[0]
    phrase = part_phrase(system, pair.x) + (first,) + part_phrase(system, pair.m) + (second,)
    numbers = (pair.opening() + pair.rest_needed(), pair.count_needed() * pair.second[1])
    return first, second, pair.x, pair.m, phrase, numbers


def middles(system, first, second):
    """All M of the conflicts of two multipliers, ascending."""
    pair = Pair(least_number(system), multiplier_of(system, first), multiplier_of(system, second))
    if not pair.conflicts():
        return ()
    _, value, most, unsaid, _ = pair.second
    last = pair.first[4] // value
    if most is not None:
        last = min(last, most - pair.opening())
    ways = ways_of(system)
    found = [0] if unsaid else []
    found.extend([m for m in range(2 if unsaid else 1, last + 1) if ways.many_of(m) > 0])
    return tuple(found)


class LongChart(Chart):
    """A chart of a phrase of any length that tells numbers apart without working out the large ones.

    A number above the greatest one that a system has bounds for has the endless multiplier as its outermost
    word. It is the last place of this word in the phrase, as the word is too large for its own rest. So the count
    and the rest tell such a number from all others, and come but once; another number above the greatest one
    stands for it.
    """

    def __init__(self, system, keep):
        Chart.__init__(self, system, keep)
        self._parts = []

    def total(self, count, value, rest):
        """The number with this count and this rest, or what stands for it."""
        number = count * value + rest
        if number <= GREATEST:
            return number
        self._parts.append((count, value, rest))
        return GREATEST + len(self._parts)

    def worth(self, number):
        """The number that this one stands for, worked out."""
        head = number
        peeled = []
        while head > GREATEST:
            head, value, rest = self._parts[head - GREATEST - 1]
            peeled.append((value, rest))
        for value, rest in reversed(peeled):
            head = head * value + rest
        return head


def is_ambiguous(system, phrase):
    """True if the phrase means two numbers."""
    check_phrase(system, phrase)
    return len(LongChart(system, 2).read_phrase(phrase)) == 2


def least_meaning(system, phrase):
    """The least number that a phrase of any length means, or None."""
    # The least count and the least rest make the least large number, so that there is no choice among what stands
    # for large ones, which need not be in their order.
    chart = LongChart(system, 1)
    numbers = chart.read_phrase(phrase)
    return chart.worth(numbers[0]) if numbers else None


def with_row(rows, changed):
    """The rows, this one in the place of the one with its word."""
    return [changed if row[0] == changed[0] else row for row in rows]


def max_count(system, word):
    """The greatest greatest count of a multiplier with which the system is unambiguous: 0 for none, None for all."""
    _, value, _, unsaid, rest = multiplier_of(system, word)
    rows = with_row(system.multipliers, (word, value, None, unsaid, rest))
    needed = []
    for pair in conflicting_pairs(least_number(system), rows):
        # The count that this conflict needs as P, and as Q.
        first = pair.first_count() if pair.first[0] == word else 1
        second = pair.count_needed() if pair.second[0] == word else 1
        needed.append(max(first, second))
    return min(needed) - 1 if needed else None


def max_rest(system, word):
    """The greatest rest of a multiplier with which the system is unambiguous, or None."""
    _, value, count, unsaid, _ = multiplier_of(system, word)
    rows = with_row(system.multipliers, (word, value, count, unsaid, value - 1))
    needed = [value]
    for pair in conflicting_pairs(least_number(system), rows):
        if pair.first[0] != word:
            return None
        needed.append(pair.rest_needed())
    return min(needed) - 1

"""Counting aloud: how many words are said of a row of numbers, and of which of them the most (part H)."""

from sayonce.coverage import Census, said_up_to
from sayonce.derivations import nth_phrase, phrase_at
from sayonce.errors import SayError
from sayonce.ways import peel, ways_of

LONGEST_ROW = 100000


class BadRange(SayError):
    """Numbers below 1, or a row that ends ahead of its start or is too long."""


class WordMissing(SayError):
    """The system does not have the word."""


def check_range(start, stop):
    """Raises BadRange if the numbers from start to stop make no row of numbers from 1 on."""
    if start < 1 or stop < start:
        raise BadRange("the numbers begin below 1, or end ahead of their start")


def counted_words(system, start, stop, counted):
    """How often words of a tuple are among what is said of the numbers from start to stop."""
    census = Census(system, stop, counted)
    return census.up_to(stop)[1] - census.up_to(start - 1)[1]


def words_said(system, start, stop):
    """How many words are said by someone who counts from start to stop; raises BadRange."""
    check_range(start, stop)
    return counted_words(system, start, stop, system.words())


def times_said(system, start, stop, word):
    """How often a word is said by someone who counts from start to stop; raises BadRange and WordMissing."""
    check_range(start, stop)
    if word not in system.words():
        raise WordMissing("the system does not have the word")
    return counted_words(system, start, stop, (word,))


def lengths_behind(row, small, counts, span):
    """How many words are said of each number of a span above the bounded maximum, None for nothing.

    The counts are the pair of the least one that is needed and the list of how many words are said of each from
    it on; small has this of each rest. (A number that is less than the endless value is its own rest, and nothing
    is said of it.)
    """
    _, value, _, unsaid, greatest_rest = row
    least, ahead = counts
    start, stop = span
    found = []
    for number in range(start, stop + 1):
        count, rest = divmod(number, value)
        words = None
        if rest <= greatest_rest and small[rest] is not None:
            words = 0 if unsaid and count == 1 else ahead[count - least]
        found.append(None if words is None else words + 1 + small[rest])
    return found


def lengths_within(system, start, stop):
    """The list of how many words are said of each number from start to stop, None for nothing.

    Nothing is said of numbers that are left out at its end. Above the bounded maximum there are only numbers with
    the endless multiplier, so that the counts, a row of fewer numbers, tell them; and the counts of these counts,
    until they are small enough to be looked up.
    """
    row = system.endless()
    maximum = system.bounded_maximum()
    if row is None:
        return said_up_to(system, min(stop, maximum), system.words())[start:]
    spans = [(start, stop)]
    while spans[-1][0] > maximum:
        low, high = spans[-1]
        spans.append((low // row[1], high // row[1]))
    low, high = spans.pop()
    small = said_up_to(system, max(high, row[4]), system.words())
    found = small[low:high + 1]
    for span in reversed(spans):
        found = lengths_behind(row, small, (low, found), span)
        low = span[0]
    return found


def longest_said(system, start, stop):
    """The first number from start to stop of which the most words are said, and its phrase; raises BadRange."""
    check_range(start, stop)
    if stop - start > LONGEST_ROW:
        raise BadRange("there are too many numbers")
    best = start
    most = 0
    for number, length in enumerate(lengths_within(system, start, stop), start):
        if length is not None and length > most:
            best = number
            most = length
    return best, (phrase_at(system, best, 0) if most > 0 else ())


class Counting:
    """Someone who counts on, from a number."""

    def __init__(self, system, number):
        check_range(number, number)
        self.number = number
        self._system = system
        self._ways = ways_of(system)

    def say(self):
        """What is said of the number that comes next; None, and no step to the one behind it, if it is nothing."""
        phrase = nth_phrase(self._system, self._ways, peel(self._system, self.number), 0)
        if phrase is not None:
            self.number += 1
        return phrase

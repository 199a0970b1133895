"""Phrases of up to 24 words: what they mean, and where they go wrong (part C)."""

from sayonce.derivations import check_phrase
from sayonce.errors import SayError
from sayonce.ways import Chart

MOST_ANSWERS = 100


class TooManyAnswers(SayError):
    """There are more than 100 numbers, or trees, to be told."""


def chart_of(system, phrase, keep):
    """The chart of a phrase; raises UnknownWord."""
    check_phrase(system, phrase)
    chart = Chart(system, keep)
    for word in phrase:
        chart.read(word)
    return chart


def told_numbers(chart, phrase):
    """The ascending tuple of the numbers of a phrase, from a chart that keeps one more than may be told."""
    if len(phrase) == 0:
        return ()
    numbers = chart.numbers(0, len(phrase))
    if len(numbers) > MOST_ANSWERS:
        raise TooManyAnswers("the phrase means too many numbers")
    return numbers


def values(system, phrase):
    """The ascending tuple of the numbers that the phrase means."""
    return told_numbers(chart_of(system, phrase, MOST_ANSWERS + 1), phrase)


class Forest:
    """The trees of a phrase, by its chart.

    Only such trees of a slice are looked for as stand in a tree of the phrase that is told. So there are
    never more of them, and none are looked for in vain.
    """

    def __init__(self, system, phrase, chart):
        self._system = system
        self._phrase = phrase
        self._chart = chart

    def trees_of(self, start, stop, wanted):
        """The pairs (number, tree), in order, of those numbers of a slice that are wanted."""
        if start == stop:
            return [(wanted[0], None)]
        found = []
        for place in range(start, stop):
            word = self._phrase[place]
            if self._system.multiplier(word) is not None:
                found.extend(self._rooted(start, place, stop, wanted))
            elif stop - start == 1:
                found.append((wanted[0], word))
            if len(found) > MOST_ANSWERS:
                raise TooManyAnswers("the phrase has too many trees")
        return found

    def _rooted(self, start, place, stop, wanted):
        word = self._phrase[place]
        value = self._system.multiplier(word)[1]
        counts = self._chart.counts(start, place)
        rests = (0,) if place + 1 == stop else self._chart.numbers(place + 1, stop)
        parts = [divmod(number, value) for number in wanted]
        live = [(count, rest) for count, rest in parts if count in counts and rest in rests]
        if not live:
            return []
        ahead = self.trees_of(start, place, sorted({count for count, _ in live}))
        behind = self.trees_of(place + 1, stop, sorted({rest for _, rest in live}))
        return [
            (count * value + rest, (first, word, last))
            for count, first in ahead for rest, last in behind if (count, rest) in live
        ]


def trees(system, phrase):
    """The trees of all derivations that yield the phrase, in order."""
    chart = chart_of(system, phrase, MOST_ANSWERS + 1)
    numbers = told_numbers(chart, phrase)
    if not numbers:
        return ()
    found = Forest(system, phrase, chart).trees_of(0, len(phrase), numbers)
    return tuple([tree for _, tree in found])


def error_index(system, phrase):
    """The index of the word at which the phrase goes wrong, or None; 0 for the empty phrase."""
    chart = chart_of(system, phrase, 1)
    for index in range(len(phrase)):
        if not chart.numbers(0, index + 1):
            return index
    return None if len(phrase) > 0 else 0


def next_words(system, phrase):
    """The words that can come next, in the order of the system."""
    chart = chart_of(system, phrase, 1)
    found = []
    for word in system.words():
        chart.read(word)
        if chart.numbers(0, len(phrase) + 1):
            found.append(word)
        chart.unread()
    return tuple(found)

"""Reading a number word by word: what is still possible (part F)."""

from sayonce.errors import SayError
from sayonce.systems import is_spoken
from sayonce.ways import Chart, least_number, peel, ways_of

MOST_WORDS = 24


class ReaderError(SayError):
    """A word cannot be read, or taken away."""


class NotInSystem(ReaderError):
    """The word is none of the system."""


class TooManyWords(ReaderError):
    """24 words were read."""


class NotPossible(ReaderError):
    """No number is possible behind the words."""


class NoWord(ReaderError):
    """There is no word to be taken away."""


def count_up_to(numbers, most):
    """How many of the numbers, which ascend, are not above most."""
    low = 0
    high = len(numbers)
    while low < high:
        middle = (low + high) // 2
        if numbers[middle] <= most:
            low = middle + 1
        else:
            high = middle
    return low


class Summit:
    """The greatest numbers that begin with words, in a system without an endless multiplier.

    With a greater count a multiplier means more, whatever the rest. So the greatest number comes from the
    greatest count, and from the one below if nothing that is small enough fits behind that one.
    """

    def __init__(self, system, words, chart):
        """The words must be read by the chart, which keeps all numbers."""
        self._system = system
        self._words = words
        self._chart = chart
        self._kept = {}

    def greatest(self, start, most):
        """The greatest number up to most whose phrase begins with the words from start on, or 0."""
        if most < 1:
            return 0
        key = (start, most)
        if key not in self._kept:
            self._kept[key] = self._find(start, most)
        return self._kept[key]

    def _find(self, start, most):
        end = len(self._words)
        found = [0]
        for word, value in self._system.simple:
            if value <= most and (start == end or (start == end - 1 and word == self._words[start])):
                found.append(value)
        for row in self._system.multipliers:
            found.append(self._to_come(row, start, most))
        for place in range(start, end):
            if self._system.multiplier(self._words[place]) is not None:
                found.append(self._at(place, start, most))
        return max(found)

    def _to_come(self, row, start, most):
        """The greatest number whose outermost word stands behind the words."""
        _, value, greatest_count, unsaid, greatest_rest = row
        most_count = min(greatest_count, most // value)
        count = self.greatest(start, most_count)
        if not is_spoken(row, count):
            if not unsaid or start < len(self._words) or most_count < 1:
                return 0
            count = 1
        return count * value + self.greatest(len(self._words), min(greatest_rest, most - count * value))

    def _at(self, place, start, most):
        """The greatest number whose outermost word is the one at this place."""
        _, value, greatest_count, _, greatest_rest = self._system.multiplier(self._words[place])
        counts = self._chart.counts(start, place)
        fitting = counts[:count_up_to(counts, min(greatest_count, most // value))]
        for count in reversed(fitting[-2:]):
            behind = self.greatest(place + 1, min(greatest_rest, most - count * value))
            if behind > 0 or place + 1 == len(self._words):
                return count * value + behind
        return 0


class Places:
    """Where derivations of numbers end among the words read, or that they go beyond."""

    def __init__(self, system, words):
        self._words = words
        self._ways = ways_of(system)
        self._kept = {}

    def ends(self, part, start):
        """The places that a part gets to from start on.

        These are the places ahead of which it yields all words from start on, and the end of all words also if
        it yields these and more.
        """
        if start == len(self._words):
            return (start,) if self._ways.many_of(part) > 0 else ()
        if part == 0:
            return (start,)
        key = (part, start)
        if key not in self._kept:
            self._kept[key] = self._find(part, start)
        return self._kept[key]

    def _find(self, part, start):
        found = []
        if self._words[start] in self._ways.names_of(part):
            found.append(start + 1)
        for word, ahead, behind in self._ways.splits_of(part):
            found.extend(self.onward(self.ends(ahead, start), word, behind))
        return tuple(sorted(set(found)))

    def onward(self, places, word, behind):
        """The places that a multiplier's word and the part behind it get to from these places on."""
        found = []
        for place in places:
            if place == len(self._words):
                found.extend(self.ends(behind, place))
            elif self._words[place] == word:
                found.extend(self.ends(behind, place + 1))
        return tuple(sorted(set(found)))


class Reader:
    """Reads words of a system, and tells which numbers are possible behind them."""

    def __init__(self, system):
        self._system = system
        self._words = []
        self._chart = Chart(system, None)

    def bounds(self):
        """The least possible number, the greatest one, and the values of the words."""
        told = self.meanings()
        least = told[0] if told else least_number(self._system)
        return least, self._greatest(told), told

    def push(self, word):
        """Reads a word."""
        if word not in self._system.words():
            raise NotInSystem("the system does not have the word")
        if len(self._words) >= MOST_WORDS:
            raise TooManyWords("no more words can be read")
        self._chart.read(word)
        if not self._chart.numbers(0, len(self._words) + 1):
            self._chart.unread()
            raise NotPossible("no number is possible behind these words")
        self._words.append(word)
        return self.bounds()

    def pop(self):
        """Takes the last word away."""
        if not self._words:
            raise NoWord("no word was read")
        self._words.pop()
        self._chart.unread()
        return self.bounds()

    def allows(self, value):
        """True if the number is possible behind the words."""
        head, rests = peel(self._system, value)
        found = Places(self._system, self._words)
        places = found.ends(head, 0)
        for rest in reversed(rests):
            places = found.onward(places, self._system.endless()[0], rest)
        return len(self._words) in places

    def words(self):
        """The words read."""
        return tuple(self._words)

    def meanings(self):
        """The values of the words."""
        return self._chart.numbers(0, len(self._words)) if self._words else ()

    def _greatest(self, told):
        if self._system.endless() is None:
            summit = Summit(self._system, self._words, self._chart)
            greatest = summit.greatest(0, self._system.bounded_maximum())
            return greatest if greatest > 0 else None
        # The endless multiplier, again and again, can follow whatever it can follow once. It cannot follow a said
        # one that it leaves unsaid itself, but it can follow another multiplier that follows this one.
        if told == (1,) and all([row[3] for row in self._system.multipliers]):
            return 1
        return None

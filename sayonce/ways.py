"""The ways to say a number, and the numbers that words mean: what the other files work with (parts B to I).

A derivation with a multiplier has a part ahead of its word and a part behind it. Here 0 stands for a part
of which nothing is said: it has one way, the empty phrase.
"""

from sayonce.systems import is_spoken

# A number without derivations: as a part 0 has one, but as a number it has none.
NO_NUMBER = -1


def least_number(system):
    """The least number that has a derivation, or None."""
    # A multiplier with something ahead of it means more than that.
    found = [value for _, value in system.simple]
    found.extend([row[1] for row in system.multipliers if row[3]])
    return min(found, default=None)


def peel(system, number):
    """The pair of a head and a list of rests, the outermost one first.

    Numbers above the bounded maximum are said with the endless multiplier alone, so that their parts make
    one row, which a loop takes off, however long it is: each rest has the multiplier ahead of it. The head
    and the rests have few splits, one in another, unless the head has no derivation at all.
    """
    if number < 1:
        return NO_NUMBER, []
    row = system.endless()
    if row is None:
        return number, []
    _, value, _, unsaid, greatest_rest = row
    maximum = system.bounded_maximum()
    head = number
    rests = []
    while head > maximum and head >= value:
        count, rest = divmod(head, value)
        if rest > greatest_rest:
            break
        rests.append(rest)
        head = 0 if unsaid and count == 1 else count
    return head, rests


class Ways:
    """The derivations of heads and rests; what is found out is kept."""

    def __init__(self, simple, rows):
        """Of these simple words, and of multipliers (word, value, least count, greatest count, unsaid, rest)."""
        self._names = {}
        for word, value in simple:
            self._names.setdefault(value, []).append(word)
        self._rows = rows
        self._many = {0: 1}
        self._shortest = {0: ()}

    def names_of(self, part):
        """The simple words with this value, in order."""
        return self._names.get(part, [])

    def splits_of(self, part):
        """The triples (word, part ahead, part behind) of the multipliers that can be outermost, in order."""
        found = []
        for word, value, least, most, unsaid, greatest_rest in self._rows:
            count, rest = divmod(part, value)
            if count >= least and rest <= greatest_rest and (most is None or count <= most):
                ahead = 0 if unsaid and count == 1 else count
                found.append((word, ahead, rest))
        return found

    def many_of(self, part):
        """How many derivations a part has."""
        if part not in self._many:
            total = len(self.names_of(part))
            for _, ahead, behind in self.splits_of(part):
                total += self.many_of(ahead) * self.many_of(behind)
            self._many[part] = total
        return self._many[part]

    def phrase_of(self, part, index):
        """The phrase of the derivation of a part with this index, from 0 on, or None if none has it."""
        if index >= self.many_of(part):
            return None
        if part == 0:
            return ()
        names = self.names_of(part)
        if index < len(names):
            return (names[index],)
        left = index - len(names)
        for word, ahead, behind in self.splits_of(part):
            many = self.many_of(behind)
            total = self.many_of(ahead) * many
            if left < total:
                return self.phrase_of(ahead, left // many) + (word,) + self.phrase_of(behind, left % many)
            left -= total
        return None

    def shortest_of(self, part):
        """The phrase of the shortest derivation of a part, or None."""
        if part not in self._shortest:
            self._shortest[part] = self._find_shortest(part)
        return self._shortest[part]

    def _find_shortest(self, part):
        names = self.names_of(part)
        if names:
            return (names[0],)
        best = None
        for word, ahead, behind in self.splits_of(part):
            if self.many_of(ahead) > 0 and self.many_of(behind) > 0:
                # The shortest derivations of both parts make the first one of the shortest with this word.
                phrase = self.shortest_of(ahead) + (word,) + self.shortest_of(behind)
                if best is None or len(phrase) < len(best):
                    best = phrase
        return best


def ways_of(system):
    """The derivations of heads and rests in a system."""
    rows = [(word, value, 1, most, unsaid, rest) for word, value, most, unsaid, rest in system.multipliers]
    return Ways(system.simple, rows)


def last_place(words, word, start, stop):
    """The last index from start to less than stop at which the word stands, or -1."""
    for index in range(stop - 1, start - 1, -1):
        if words[index] == word:
            return index
    return -1


class Finder:
    """The indexes of derivations that yield slices of one tuple of words; what is found out is kept."""

    def __init__(self, ways, words):
        self._ways = ways
        self._words = words
        self._found = {}

    def index_within(self, part, start, stop):
        """The index of the first derivation of a part that yields the words from start to stop, or None."""
        key = (part, start, stop)
        if key not in self._found:
            self._found[key] = self._find(part, start, stop)
        return self._found[key]

    def _find(self, part, start, stop):
        if part == 0:
            return 0 if start == stop else None
        # A count and a rest, each of them plus 1, multiply to at most their number plus 1, and a value is at
        # least 2; so a number n is said in at most 2 * log2(n + 1) - 1 words, and longer slices yield nothing.
        if not 0 < stop - start < 2 * part.bit_length():
            return None
        names = self._ways.names_of(part)
        if stop - start == 1 and self._words[start] in names:
            return names.index(self._words[start])
        before = len(names)
        for word, ahead, behind in self._ways.splits_of(part):
            index = self._find_split((word, ahead, behind), start, stop)
            if index is not None:
                return before + index
            before += self._ways.many_of(ahead) * self._ways.many_of(behind)
        return None

    def _find_split(self, split, start, stop):
        word, ahead, behind = split
        # A rest is less than the value of its multiplier, so this word cannot stand in it again.
        place = last_place(self._words, word, start, stop)
        if place < 0:
            return None
        last = self.index_within(behind, place + 1, stop)
        if last is None:
            return None
        first = self.index_within(ahead, start, place)
        if first is None:
            return None
        return first * self._ways.many_of(behind) + last


class Chart:
    """The numbers that the slices of a row of words mean, worked out word by word.

    Only the least numbers of each slice are kept, as many as asked for. The least ones of its parts are enough
    for them: nothing but being too large bars a number, except for a count of 1 that is unsaid, and a slice
    that means 1 is a single word, which means nothing else.
    """

    def __init__(self, system, keep):
        """Reads no words yet; keep is how many numbers of each slice are kept, None for all."""
        self._system = system
        self._keep = keep
        self._words = []
        self._columns = []
        rests = [row[4] for row in system.multipliers]
        # A rest has fewer words than this: see Finder.
        self._longest = 2 * max(rests, default=0).bit_length()

    def read(self, word):
        """Reads a word behind the others."""
        self._words.append(word)
        stop = len(self._words)
        roots = []
        if self._system.multiplier(word) is not None:
            roots.append((stop - 1, (0,)))
        column = {}
        for start in range(stop - 1, max(0, stop - self._longest), -1):
            # What does not begin with the first word is, or begins, the rest of the word ahead of it.
            row = self._system.multiplier(self._words[start - 1])
            if row is not None:
                numbers = self._least(start, roots, row[4])
                if numbers:
                    column[start] = numbers
                    roots.append((start - 1, numbers))
        column[0] = self._least(0, roots, None)
        self._columns.append(column)

    def read_phrase(self, phrase):
        """Reads a phrase, as long as its words mean anything; returns the numbers of what was read.

        A word that the system does not have means nothing.
        """
        numbers = ()
        for word in phrase:
            self.read(word)
            numbers = self.numbers(0, len(self._words))
            if not numbers:
                break
        return numbers

    def unread(self):
        """Takes the last word away."""
        self._words.pop()
        self._columns.pop()

    def numbers(self, start, stop):
        """The ascending tuple of the least numbers that the words from start to stop mean.

        If start is not 0, up to the greatest rest of the word ahead of them.
        """
        return self._columns[stop - 1].get(start, ())

    def counts(self, start, place):
        """The ascending list of the least counts, said from start on, of the multiplier at this place."""
        row = self._system.multiplier(self._words[place])
        if place == start:
            return [1] if row[3] else []
        return [count for count in self.numbers(start, place) if is_spoken(row, count)]

    def total(self, count, value, rest):
        """The number with this count and this rest of a multiplier with this value."""
        return count * value + rest

    def _least(self, start, roots, limit):
        found = []
        if start == len(self._words) - 1:
            value = self._system.simple_value(self._words[start])
            if value is not None:
                found.append(value)
        for place, rests in roots:
            found.extend(self._rooted(start, place, rests, limit))
        if limit is not None:
            found = [number for number in found if number <= limit]
        return tuple(sorted(set(found))[:self._keep])

    def _rooted(self, start, place, rests, limit):
        value = self._system.multiplier(self._words[place])[1]
        counts = self.counts(start, place)
        if limit is not None:
            counts = [count for count in counts if count * value <= limit]
        if self._keep is not None:
            # With the same rests, the counts behind these make greater numbers alone.
            counts = counts[:(self._keep - 1) // len(rests) + 1]
        return [self.total(count, value, rest) for count in counts for rest in rests]

"""What can be said: gaps, numbers said in two ways, and certificates that there is no gap (part E)."""


def bound_of(system):
    """The bound of a system: if every number up to it is said, every number is."""
    maximum = system.bounded_maximum()
    row = system.endless()
    if row is None:
        return maximum + 1
    return max(maximum, row[1]) + row[1]


def reach(system, covered, word, times):
    """Where a step reaches, the numbers up to covered being covered, or None if it is not admissible."""
    value = system.simple_value(word)
    if value is not None:
        return value if times == 0 and value <= covered + 1 else None
    row = system.multiplier(word)
    if row is None:
        return None
    _, value, most, _, rest = row
    # As a value is at least 2, times is at most covered then: the count is said.
    if times < 1 or (most is not None and times > most) or times * value > covered + 1:
        return None
    return times * value + min(rest, covered)


def candidates(system, covered):
    """The steps that could cover more, in order: simple words, and each multiplier with its greatest times."""
    steps = [(word, 0) for word, value in system.simple if value > covered]
    for word, value, most, _, _ in system.multipliers:
        times = (covered + 1) // value
        steps.append((word, times if most is None else min(times, most)))
    return steps


def climb(system):
    """The pair of the steps that reach farthest, up to the bound if they get there, and where they get.

    They get stuck ahead of the first number that is not said: if all numbers below a number are covered
    and it has a derivation, then the derivation's outermost word makes a step that reaches it.
    """
    bound = bound_of(system)
    covered = 0
    steps = []
    while covered < bound:
        farthest = covered
        best = None
        for step in candidates(system, covered):
            reached = reach(system, covered, step[0], step[1])
            if reached is not None and reached > farthest:
                farthest = reached
                best = step
        if best is None:
            break
        steps.append(best)
        covered = farthest
    return steps, covered


def first_gap(system):
    """The least number that is not said, or None."""
    _, covered = climb(system)
    return None if covered >= bound_of(system) else covered + 1


def rows_up_to(system, last):
    """The multipliers, each with a greatest count that bars no number up to last."""
    return [
        (word, value, last if most is None else most, unsaid, rest)
        for word, value, most, unsaid, rest in system.multipliers
    ]


def first_double(system):
    """The least number that has two derivations or more, or None."""
    names = {}
    for _, value in system.simple:
        names[value] = names.get(value, 0) + 1
    last = system.bounded_maximum()
    rows = rows_up_to(system, last)
    # How many derivations each number has, 0 having one, nothing.
    many = [1]
    for number in range(1, last + 1):
        total = names.get(number, 0)
        for _, value, most, unsaid, greatest_rest in rows:
            count, rest = divmod(number, value)
            if 1 <= count <= most and rest <= greatest_rest:
                total += many[0 if unsaid and count == 1 else count] * many[rest]
        if total > 1:
            return number
        many.append(total)
    return None


def first_with(rows, found, number):
    """How many counted words the first derivation of a number that begins with a multiplier has, or None.

    A row has 1 in the place of its word if this is counted, otherwise 0; found has this of all lesser numbers.
    """
    for own, value, most, unsaid, greatest_rest in rows:
        count, rest = divmod(number, value)
        if 1 <= count <= most and rest <= greatest_rest:
            ahead = found[0 if unsaid and count == 1 else count]
            behind = found[rest]
            if ahead is not None and behind is not None:
                return ahead + own + behind
    return None


def said_up_to(system, last, counted):
    """The list of how many counted words the first derivation of each number from 0 to last has, None without one.

    Of 0 as a part nothing is said, so it has 0. What is counted is given as a tuple of words.
    """
    names = {}
    for word, value in system.simple:
        names.setdefault(value, 1 if word in counted else 0)
    rows = [(1 if row[0] in counted else 0,) + row[1:] for row in rows_up_to(system, last)]
    found = [0]
    for number in range(1, last + 1):
        many = names.get(number)
        found.append(first_with(rows, found, number) if many is None else many)
    return found


class Census:
    """How many numbers are said up to numbers of any size, in a system, and how many counted words with them.

    What is worked out one by one are the numbers up to the bounded maximum. Those above it have the endless
    multiplier as their outermost word, so that what is known of a count tells what is known behind it.
    """

    def __init__(self, system, last, counted):
        """For numbers up to last, and first derivations; counted is a tuple of words."""
        self._row = system.endless()
        self._own = 1 if self._row is not None and self._row[0] in counted else 0
        self._maximum = system.bounded_maximum()
        self._found = said_up_to(system, min(self._maximum, last), counted)
        # Of 0 nothing is said, so as a number it does not count.
        self._sums = [(0, 0)]
        for words in self._found[1:]:
            many, total = self._sums[-1]
            self._sums.append((many, total) if words is None else (many + 1, total + words))

    def up_to(self, number):
        """The pair of how many numbers from 1 to this one are said, and how many counted words with them."""
        rests = []
        head = number
        while self._row is not None and head > self._maximum and head >= self._row[1]:
            head, rest = divmod(head, self._row[1])
            rests.append(rest)
        sums, words = self._small_sums(head), self._small(head)
        for rest in reversed(rests):
            sums, words = self._behind(head, sums, words, rest)
            head = head * self._row[1] + rest
        return sums

    def _small_sums(self, number):
        """What up_to tells of a number that is within the bounded maximum, or less than the endless value."""
        return self._sums[min(number, len(self._sums) - 1)]

    def _small(self, number):
        """How many counted words are said of such a number, or None; of 0 there are none."""
        return self._found[number] if number < len(self._found) else None

    def _behind(self, count, sums, words, rest):
        """The sums, and the words, of the number with this count and rest, by those of the count."""
        _, value, _, _, greatest_rest = self._row
        many, total = self._small_sums(self._maximum)
        head, left = divmod(self._maximum, value)
        bounded = self._endless_up_to(head, self._small_sums(head), self._small(head), left)
        endless = self._endless_up_to(count, sums, words, rest)
        behind = self._small(rest)
        ahead = self._ahead(count, words)
        if ahead is None or behind is None or rest > greatest_rest:
            found = None
        else:
            found = ahead + self._own + behind
        return (many + endless[0] - bounded[0], total + endless[1] - bounded[1]), found

    def _ahead(self, count, words):
        """How many counted words stand ahead of the endless multiplier with this count, or None if it cannot be."""
        return 0 if count == 1 and self._row[3] else words

    def _endless_up_to(self, count, sums, words, rest):
        """The sums of the numbers up to the one with this count and rest whose outermost word is the endless one."""
        if count == 0:
            return 0, 0
        many, total = sums
        one = self._small(1)
        if self._row[3]:
            # Where one is not said, it can be a count all the same; nothing stands ahead then.
            many, total = (many + 1, total) if one is None else (many, total - one)
        ahead = self._ahead(count, words)
        if ahead is None:
            return self._block(many, total, self._row[4])
        before = self._block(many - 1, total - ahead, self._row[4])
        last = self._block(1, ahead, min(rest, self._row[4]))
        return before[0] + last[0], before[1] + last[1]

    def _block(self, counts, total, rest):
        """The sums of the numbers of so many counts, which have so many words in all, with all rests up to this one."""
        many, words = self._small_sums(rest)
        return counts * (1 + many), (total + counts * self._own) * (1 + many) + counts * words


def sayable_count(system, start, stop):
    """How many numbers from start to stop, both included, are said."""
    census = Census(system, stop, ())
    return census.up_to(stop)[0] - census.up_to(start - 1)[0]


def certifiable(system):
    """True if the system has an endless multiplier with the greatest rest that there can be."""
    row = system.endless()
    return row is not None and row[4] == row[1] - 1


def certificate(system):
    """The row of the steps that reach farthest, or None if some number is not said."""
    if not certifiable(system):
        return None
    steps, covered = climb(system)
    return tuple(steps) if covered >= bound_of(system) else None


def is_certificate(system, steps):
    """True if the steps are a certificate."""
    if not certifiable(system):
        return False
    covered = 0
    for word, times in steps:
        reached = reach(system, covered, word, times)
        if reached is None:
            return False
        covered = max(covered, reached)
    return covered >= bound_of(system)

"""What can be said: gaps, numbers said in two ways, and certificates that there is no gap (part E)."""


def bound_of(system):
    """The bound of a system: if every number up to it is said, every number is."""
    maximum = system.bounded_maximum()
    row = system.endless()
    if row is None:
        return maximum + 1
    return max(maximum, row[1]) + row[1]


def reach(system, covered, word, times):
    """Where a step reaches, the numbers up to covered being covered, or None if it is not admissible."""
    value = system.simple_value(word)
    if value is not None:
        return value if times == 0 and value <= covered + 1 else None
    row = system.multiplier(word)
    if row is None:
        return None
    _, value, most, _, rest = row
    # As a value is at least 2, times is at most covered then: the count is said.
    if times < 1 or (most is not None and times > most) or times * value > covered + 1:
        return None
    return times * value + min(rest, covered)


def candidates(system, covered):
    """The steps that could cover more, in order: simple words, and each multiplier with its greatest times."""
    steps = [(word, 0) for word, value in system.simple if value > covered]
    for word, value, most, _, _ in system.multipliers:
        times = (covered + 1) // value
        steps.append((word, times if most is None else min(times, most)))
    return steps


def climb(system):
    """The pair of the steps that reach farthest, up to the bound if they get there, and where they get.

    They get stuck ahead of the first number that is not said: if all numbers below a number are covered
    and it has a derivation, then the derivation's outermost word makes a step that reaches it.
    """
    bound = bound_of(system)
    covered = 0
    steps = []
    while covered < bound:
        farthest = covered
        best = None
        for step in candidates(system, covered):
            reached = reach(system, covered, step[0], step[1])
            if reached is not None and reached > farthest:
                farthest = reached
                best = step
        if best is None:
            break
        steps.append(best)
        covered = farthest
    return steps, covered


def first_gap(system):
    """The least number that is not said, or None."""
    _, covered = climb(system)
    return None if covered >= bound_of(system) else covered + 1


def many_up_to(system, last, stop_at_double):
    """The list of how many derivations each number from 0 to last has, 0 having one, nothing.

    If asked to, it stops behind the first number that has two or more.
    """
    names = {}
    for _, value in system.simple:
        names[value] = names.get(value, 0) + 1
    rows = [
        (value, last if most is None else most, unsaid, rest)
        for _, value, most, unsaid, rest in system.multipliers
    ]
    many = [1]
    for number in range(1, last + 1):
        total = names.get(number, 0)
        for value, most, unsaid, greatest_rest in rows:
            count, rest = divmod(number, value)
            if 1 <= count <= most and rest <= greatest_rest:
                total += many[0 if unsaid and count == 1 else count] * many[rest]
        many.append(total)
        if stop_at_double and total > 1:
            break
    return many


def first_double(system):
    """The least number that has two derivations or more, or None."""
    many = many_up_to(system, system.bounded_maximum(), True)
    return len(many) - 1 if many[-1] > 1 else None


class Census:
    """How many numbers are said up to numbers of any size, in a system.

    What is worked out one by one are the numbers up to the bounded maximum. Those above it have the endless
    multiplier as their outermost word, so that what is known of a count tells what is known behind it.
    """

    def __init__(self, system, last):
        """For numbers up to last."""
        self._row = system.endless()
        self._maximum = system.bounded_maximum()
        many = many_up_to(system, min(self._maximum, last), False)
        self._totals = [0]
        for ways in many[1:]:
            self._totals.append(self._totals[-1] + (1 if ways > 0 else 0))

    def up_to(self, number):
        """How many numbers from 1 to this one are said."""
        rests = []
        head = number
        while self._row is not None and head > self._maximum and head >= self._row[1]:
            head, rest = divmod(head, self._row[1])
            rests.append(rest)
        total, is_said = self._small(head), self._small_said(head)
        for rest in reversed(rests):
            total, is_said = self._behind(head, total, is_said, rest)
            head = head * self._row[1] + rest
        return total

    def _small(self, number):
        """How many are said up to a number that is within the bounded maximum, or less than the endless value."""
        return self._totals[min(number, len(self._totals) - 1)]

    def _small_said(self, number):
        return number > 0 and self._small(number) > self._small(number - 1)

    def _behind(self, count, total, is_said, rest):
        """What up_to tells of the number with this count and rest, by what is known of the count; and if it is said."""
        _, value, _, _, greatest_rest = self._row
        with_endless = self._endless_up_to(count, total, is_said, rest)
        head, left = divmod(self._maximum, value)
        bounded = self._endless_up_to(head, self._small(head), self._small_said(head), left)
        allowed = rest == 0 or (rest <= greatest_rest and self._small_said(rest))
        return self._small(self._maximum) + with_endless - bounded, allowed and self._stands(count, is_said)

    def _stands(self, count, is_said):
        """True if the count can stand ahead of the endless multiplier, said or unsaid."""
        return is_said or (count == 1 and self._row[3])

    def _endless_up_to(self, count, total, is_said, rest):
        """How many numbers up to the one with this count and rest have the endless multiplier as outermost word."""
        if count == 0:
            return 0
        greatest_rest = self._row[4]
        before = total - (1 if is_said else 0)
        if count > 1 and self._row[3] and not self._small_said(1):
            before += 1
        found = before * (1 + self._small(greatest_rest))
        if self._stands(count, is_said):
            found += 1 + self._small(min(rest, greatest_rest))
        return found


def sayable_count(system, start, stop):
    """How many numbers from start to stop, both included, are said."""
    census = Census(system, stop)
    return census.up_to(stop) - census.up_to(start - 1)


def certifiable(system):
    """True if the system has an endless multiplier with the greatest rest that there can be."""
    row = system.endless()
    return row is not None and row[4] == row[1] - 1


def certificate(system):
    """The row of the steps that reach farthest, or None if some number is not said."""
    if not certifiable(system):
        return None
    steps, covered = climb(system)
    return tuple(steps) if covered >= bound_of(system) else None


def is_certificate(system, steps):
    """True if the steps are a certificate."""
    if not certifiable(system):
        return False
    covered = 0
    for word, times in steps:
        reached = reach(system, covered, word, times)
        if reached is None:
            return False
        covered = max(covered, reached)
    return covered >= bound_of(system)

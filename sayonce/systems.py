"""Systems of number words, and what is wrong with lists that are none (part A)."""

from sayonce.errors import SayError

MOST_SIMPLE = 24
MOST_MULTIPLIERS = 6
LONGEST_WORD = 8
GREATEST = 100000


class BadSystem(SayError):
    """Lists that make no system: which of the two, the index in it (or None), and the reason."""

    def __init__(self, part, number, reason):
        self.part = part
        self.number = number
        self.reason = reason


def is_word(text):
    """True for 1 to 8 letters a to z."""
    # Not isalpha or islower: these take letters of other alphabets, too.
    return 1 <= len(text) <= LONGEST_WORD and all(["a" <= letter <= "z" for letter in text])


def is_spoken(row, count):
    """True if the count is spoken ahead of the multiplier that is passed as its tuple."""
    _, _, most, unsaid, _ = row
    least = 2 if unsaid else 1
    return least <= count and (most is None or count <= most)


def simple_fault(row):
    """The first reason why a row is no simple word, or None."""
    if len(row) != 2:
        return "length"
    word, value = row
    if not is_word(word):
        return "word"
    if not 1 <= value <= GREATEST:
        return "value"
    return None


def multiplier_fault(row):
    """The first reason why a row is no multiplier, or None."""
    if len(row) != 5:
        return "length"
    word, value, count, _, rest = row
    if not is_word(word):
        return "word"
    if not 2 <= value <= GREATEST:
        return "value"
    if count is not None and not 1 <= count <= GREATEST:
        return "count"
    if not 0 <= rest < value:
        return "rest"
    if count is not None and count * value + rest > GREATEST:
        return "large"
    return None


def check_rows(part, rows, most, fault):
    """Raises BadSystem for too many rows, or for the first wrong one."""
    if len(rows) > most:
        raise BadSystem(part, None, "many")
    for number, row in enumerate(rows):
        reason = fault(row)
        if reason is not None:
            raise BadSystem(part, number, reason)


def check_twice(simple, multipliers):
    """Raises BadSystem for the first word that stood before."""
    seen = {}
    for part, rows in (("simple", simple), ("multipliers", multipliers)):
        for number, row in enumerate(rows):
            if row[0] in seen:
                raise BadSystem(part, number, "twice")
            seen[row[0]] = True


def check_endless(multipliers):
    """Raises BadSystem for the second endless multiplier."""
    found = False
    for number, row in enumerate(multipliers):
        if row[2] is None:
            if found:
                raise BadSystem("multipliers", number, "endless")
            found = True


class System:
    """A system of number words; it stays as it was made."""

    def __init__(self, simple, multipliers):
        check_rows("simple", simple, MOST_SIMPLE, simple_fault)
        check_rows("multipliers", multipliers, MOST_MULTIPLIERS, multiplier_fault)
        check_twice(simple, multipliers)
        check_endless(multipliers)
        self.simple = tuple([tuple(row) for row in simple])
        self.multipliers = tuple([tuple(row) for row in multipliers])
        self._values = {word: value for word, value in self.simple}
        self._rows = {row[0]: row for row in self.multipliers}

    def words(self):
        """All words, the simple ones first."""
        return tuple([row[0] for row in self.simple + self.multipliers])

    def simple_value(self, word):
        """The value of a simple word, or None."""
        return self._values.get(word)

    def multiplier(self, word):
        """The tuple of a multiplier, or None."""
        return self._rows.get(word)

    def endless(self):
        """The tuple of the endless multiplier, or None."""
        for row in self.multipliers:
            if row[2] is None:
                return row
        return None

    def bounded_maximum(self):
        """The greatest number that can be said without the endless multiplier as the outermost word."""
        greatest = 0
        for _, value in self.simple:
            greatest = max(greatest, value)
        for _, value, count, _, rest in self.multipliers:
            if count is not None:
                greatest = max(greatest, count * value + rest)
        return greatest

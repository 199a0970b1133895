"""The text of a system: reading and writing it (part A)."""

from sayonce.errors import SayError
from sayonce.systems import LONGEST_WORD, System

LONGEST_TEXT = 2000
LONGEST_NUMBER = 6
LETTERS = "abcdefghijklmnopqrstuvwxyz"
DIGITS = "0123456789"


class BadText(SayError):
    """A text that is not one of a system: the position at which it goes wrong."""

    def __init__(self, position):
        self.position = position


class TooLong(SayError):
    """A text of more than 2000 characters."""


class Scanner:
    """Reads a text from its start.

    Whatever it has passed is the beginning of a text of a system, so the place that it has reached
    when nothing fits is where the text goes wrong, also if that is the text's length.
    """

    def __init__(self, text):
        self._text = text
        self._at = 0

    def at_end(self):
        """True if the whole text has been read."""
        return self._at == len(self._text)

    def sees(self, signs):
        """True if the next character is one of these."""
        return not self.at_end() and self._text[self._at] in signs

    def at_line_end(self):
        """True if the line has been read."""
        return self.at_end() or self.sees("\n")

    def take(self, signs):
        """Passes one character, which must be one of these, and returns it."""
        if not self.sees(signs):
            raise BadText(self._at)
        self._at += 1
        return self._text[self._at - 1]

    def take_run(self, signs, most):
        """Passes such characters, at least one, as many as there are up to most."""
        taken = self.take(signs)
        while len(taken) < most and self.sees(signs):
            taken += self.take(signs)
        return taken

    def skip_blanks(self):
        """Passes blanks, if there are any."""
        while self.sees(" "):
            self.take(" ")

    def take_gap(self):
        """Passes the blanks between two words."""
        self.take(" ")
        self.skip_blanks()

    def goes_on(self):
        """Passes the end of a word: True if a word must follow in the line, False if the line ends."""
        if not self.at_line_end():
            self.take_gap()
        return not self.at_line_end()

    def take_line_end(self):
        """Passes the end of a word behind which no other one can stand in the line."""
        if self.goes_on():
            raise BadText(self._at)

    def take_keyword(self, word):
        """Passes this word."""
        for letter in word:
            self.take(letter)

    def take_word(self):
        """Passes a word of a system and returns it."""
        return self.take_run(LETTERS, LONGEST_WORD)

    def take_number(self):
        """Passes a number and returns it."""
        # No digit can follow a 0 that stands first.
        most = 1 if self.sees("0") else LONGEST_NUMBER
        return int(self.take_run(DIGITS, most))


def read_count(scanner):
    """Reads the greatest count of a multiplier: None if it is endless."""
    if scanner.sees("w"):
        scanner.take_keyword("without")
        scanner.take_gap()
        scanner.take_keyword("end")
        return None
    scanner.take_keyword("up")
    scanner.take_gap()
    scanner.take_keyword("to")
    scanner.take_gap()
    return scanner.take_number()


def read_rest(scanner):
    """Reads what stands behind the greatest count, up to the line's end: the pair of rest and unsaid."""
    scanner.take_gap()
    scanner.take_keyword("rest")
    scanner.take_gap()
    rest = scanner.take_number()
    if not scanner.goes_on():
        return rest, False
    scanner.take_keyword("one")
    scanner.take_gap()
    scanner.take_keyword("unsaid")
    scanner.take_line_end()
    return rest, True


def read_line(scanner, simple, multipliers):
    """Reads a line and puts what it says behind the rows of its kind."""
    scanner.skip_blanks()
    if scanner.at_line_end():
        return
    word = scanner.take_word()
    scanner.take_gap()
    value = scanner.take_number()
    if not scanner.goes_on():
        simple.append((word, value))
        return
    count = read_count(scanner)
    rest, unsaid = read_rest(scanner)
    multipliers.append((word, value, count, unsaid, rest))


def read_system(text):
    """The system of a text."""
    if len(text) > LONGEST_TEXT:
        raise TooLong("the text is too long")
    simple = []
    multipliers = []
    scanner = Scanner(text)
    read_line(scanner, simple, multipliers)
    while not scanner.at_end():
        scanner.take("\n")
        read_line(scanner, simple, multipliers)
    return System(simple, multipliers)


def multiplier_line(row):
    """The line of a multiplier."""
    word, value, count, unsaid, rest = row
    counts = "without end" if count is None else f"up to {count}"
    ending = " one unsaid" if unsaid else ""
    return f"{word} {value} {counts} rest {rest}{ending}"


def write_system(system):
    """The text that is written for a system."""
    lines = [f"{word} {value}" for word, value in system.simple]
    lines.extend([multiplier_line(row) for row in system.multipliers])
    return "\n".join(lines)

"""The document's definitions, followed word by word and without regard to time: what the tests compare with."""

import re

from sayonce.systems import System

LINE = re.compile(
    r" *"
    r"(?:(?P<word>[a-z]{1,8}) +(?P<value>0|[1-9][0-9]{0,5})"
    r"(?: +(?:up +to +(?P<count>0|[1-9][0-9]{0,5})|without +end) +rest +(?P<rest>0|[1-9][0-9]{0,5})"
    r"(?P<unsaid> +one +unsaid)?)?"
    r" *)?"
)

ENDINGS = tuple(
    line[at:]
    for line in ("aaaaaaaa 1 up to 1 rest 1 one unsaid", "a 1 without end rest 1 one unsaid")
    for at in range(len(line) + 1)
)


def is_text(text):
    return all(LINE.fullmatch(line) for line in text.split("\n"))


def begins_text(text):
    """[A5], with all the endings that can be needed."""
    whole, feed, line = text.rpartition("\n")
    if feed and not is_text(whole):
        return False
    return any(LINE.fullmatch(line + ending) for ending in ENDINGS)


def wrong_place(text):
    """The position at which a text goes wrong, or None."""
    for at in range(len(text)):
        if not begins_text(text[:at + 1]):
            return at
    return None if is_text(text) else len(text)


def trees(system, number, known=None):
    """All derivations of a number in the order of [B2], each as its phrase."""
    if known is None:
        known = {}
    if number in known:
        return known[number]
    found = [(word,) for word, value in system.simple if value == number]
    for word, value, most, unsaid, greatest_rest in system.multipliers:
        for rest in range(greatest_rest + 1):
            if (number - rest) % value:
                continue
            count = (number - rest) // value
            if count < 1 or (most is not None and count > most):
                continue
            ahead = [()] if unsaid and count == 1 else trees(system, count, known)
            behind = [()] if rest == 0 else trees(system, rest, known)
            found.extend([first + (word,) + last for first in ahead for last in behind])
    known[number] = found
    return found


def is_said(system, number, known):
    """[B1], [B3]; known is a dict for what was found out."""
    if number not in known:
        known[number] = number in [value for _, value in system.simple] or any([
            1 <= number // value <= (number if most is None else most) and number % value <= rest
            and ((unsaid and number // value == 1) or is_said(system, number // value, known))
            and (number % value == 0 or is_said(system, number % value, known))
            for _, value, most, unsaid, rest in system.multipliers
        ])
    return known[number]


def parses(system, words):
    """[B1], [C2]: the pairs (value, tree) of all derivations that yield the words, in order."""
    found = []
    if len(words) == 1:
        found.extend([(value, word) for word, value in system.simple if word == words[0]])
    for place, outermost in enumerate(words):
        for word, value, most, unsaid, greatest_rest in system.multipliers:
            if word != outermost:
                continue
            least = 2 if unsaid else 1
            ahead = [pair for pair in parses(system, words[:place]) if pair[0] >= least]
            if place == 0 and unsaid:
                ahead = [(1, None)]
            behind = parses(system, words[place + 1:]) if place + 1 < len(words) else [(0, None)]
            for count, first in ahead:
                for rest, last in behind:
                    if (most is None or count <= most) and rest <= greatest_rest:
                        found.append((count * value + rest, (first, word, last)))
    return found


def spoken(row, count):
    return count >= (2 if row[3] else 1) and (row[2] is None or count <= row[2])


def conflicts(simple, rows, top):
    """[D2], [D4]: all conflicts (P, Q, X, M) of a system of these rows, with M up to top."""
    known = {}
    system = Rows(simple, rows)
    said = [number for number in range(1, top + 1) if is_said(system, number, known)]
    found = []
    for first in rows:
        for second in rows:
            counts = [0] if first[3] else [x for x in said if first[2] is None or x <= first[2]][:1]
            for x in counts:
                head = (x or 1) * first[1]
                for m in [0] + said:
                    if not (second[3] if m == 0 else spoken(second, m)):
                        continue
                    if (m or 1) * second[1] <= first[4] and m <= first[4] and spoken(second, head + m):
                        found.append((first[0], second[0], x, m))
    return found


def is_row_of_steps(system, steps):
    """[E2], [E3]: True if the steps are a certificate; what is covered is kept number by number."""
    endless = [row for row in system.multipliers if row[2] is None]
    if not endless or endless[0][4] != endless[0][1] - 1:
        return False
    values = [value for _, value in system.simple]
    values.extend([most * value + rest for _, value, most, _, rest in system.multipliers if most is not None])
    bound = max(values + [endless[0][1]]) + endless[0][1]
    covered = [0]
    for word, times in steps:
        last = covered[-1]
        reached = None
        for name, value in system.simple:
            if name == word and times == 0 and value <= last + 1:
                reached = value
        for name, value, most, unsaid, rest in system.multipliers:
            fits = times >= 1 and times * value <= last + 1 and (most is None or times <= most)
            if name == word and fits and (times <= last or (times == 1 and unsaid)):
                reached = times * value + min(rest, last)
        if reached is None:
            return False
        covered.extend(range(last + 1, reached + 1))
    return covered[-1] >= bound


class Rows:
    """The rows of a system without the limits that a system has."""

    def __init__(self, simple, multipliers):
        self.simple = tuple(simple)
        self.multipliers = tuple(multipliers)


def small_system(chance):
    """A system of few words with small values, so that all of its numbers can be looked through."""
    simple = [(word, chance.randint(1, 9)) for word in "abcd"[:chance.randint(0, 4)]]
    multipliers = []
    endless = chance.randint(0, 4)
    for at, word in enumerate("uvwx"[:chance.randint(0, 4)]):
        value = chance.randint(2, 9)
        count = None if at == endless else chance.randint(1, 10)
        multipliers.append((word, value, count, chance.random() < 0.6, chance.randint(0, value - 1)))
    return System(simple, multipliers)

"""The document's definitions, followed word by word and without regard to time: what the tests compare with."""

import re

from sayonce.systems import System

LINE = re.compile(
    r" *"
    r"(?:(?P<word>[a-z]{1,8}) +(?P<value>0|[1-9][0-9]{0,5})"
    r"(?: +(?:up +to +(?P<count>0|[1-9][0-9]{0,5})|without +end) +rest +(?P<rest>0|[1-9][0-9]{0,5})"
    r"(?P<unsaid> +one +unsaid)?)?"
    r" *)?"
)

ENDINGS = tuple(
    line[at:]
    for line in ("aaaaaaaa 1 up to 1 rest 1 one unsaid", "a 1 without end rest 1 one unsaid")
    for at in range(len(line) + 1)
)


def is_text(text):
    return all(LINE.fullmatch(line) for line in text.split("\n"))


def begins_text(text):
    """[A5], with all the endings that can be needed."""
    whole, feed, line = text.rpartition("\n")
    if feed and not is_text(whole):
        return False
    return any(LINE.fullmatch(line + ending) for ending in ENDINGS)


def wrong_place(text):
    """The position at which a text goes wrong, or None."""
    for at in range(len(text)):
        if not begins_text(text[:at + 1]):
            return at
    return None if is_text(text) else len(text)


def trees(system, number, known=None):
    """All derivations of a number in the order of [B2], each as its phrase."""
    if known is None:
        known = {}
    if number in known:
        return known[number]
    found = [(word,) for word, value in system.simple if value == number]
    for word, value, most, unsaid, greatest_rest in system.multipliers:
        for rest in range(greatest_rest + 1):
            if (number - rest) % value:
                continue
            count = (number - rest) // value
            if count < 1 or (most is not None and count > most):
                continue
            ahead = [()] if unsaid and count == 1 else trees(system, count, known)
            behind = [()] if rest == 0 else trees(system, rest, known)
            found.extend([first + (word,) + last for first in ahead for last in behind])
    known[number] = found
    return found


def is_said(system, number, known):
    """[B1], [B3]; known is a dict for what was found out."""
    if number not in known:
        known[number] = number in [value for _, value in system.simple] or any([
            1 <= number // value <= (number if most is None else most) and number % value <= rest
            and ((unsaid and number // value == 1) or is_said(system, number // value, known))
            and (number % value == 0 or is_said(system, number % value, known))
            for _, value, most, unsaid, rest in system.multipliers
        ])
    return known[number]


def parses(system, words):
    """[B1], [C2]: the pairs (value, tree) of all derivations that yield the words, in order."""
    found = []
    if len(words) == 1:
        found.extend([(value, word) for word, value in system.simple if word == words[0]])
    for place, outermost in enumerate(words):
        for word, value, most, unsaid, greatest_rest in system.multipliers:
            if word != outermost:
                continue
            least = 2 if unsaid else 1
            ahead = [pair for pair in parses(system, words[:place]) if pair[0] >= least]
            if place == 0 and unsaid:
                ahead = [(1, None)]
            behind = parses(system, words[place + 1:]) if place + 1 < len(words) else [(0, None)]
            for count, first in ahead:
                for rest, last in behind:
                    if (most is None or count <= most) and rest <= greatest_rest:
                        found.append((count * value + rest, (first, word, last)))
    return found


def spoken(row, count):
    return count >= (2 if row[3] else 1) and (row[2] is None or count <= row[2])


def conflicts(simple, rows, top):
    """[D2], [D4]: all conflicts (P, Q, X, M) of a system of these rows, with M up to top."""
    known = {}
    system = Rows(simple, rows)
    said = [number for number in range(1, top + 1) if is_said(system, number, known)]
    found = []
    for first in rows:
        for second in rows:
            counts = [0] if first[3] else [x for x in said if first[2] is None or x <= first[2]][:1]
            for x in counts:
                head = (x or 1) * first[1]
                for m in [0] + said:
                    if not (second[3] if m == 0 else spoken(second, m)):
                        continue
                    if (m or 1) * second[1] <= first[4] and m <= first[4] and spoken(second, head + m):
                        found.append((first[0], second[0], x, m))
    return found


def is_row_of_steps(system, steps):
    """[E2], [E3]: True if the steps are a certificate; what is covered is kept number by number."""
    endless = [row for row in system.multipliers if row[2] is None]
    if not endless or endless[0][4] != endless[0][1] - 1:
        return False
    values = [value for _, value in system.simple]
    values.extend([most * value + rest for _, value, most, _, rest in system.multipliers if most is not None])
    bound = max(values + [endless[0][1]]) + endless[0][1]
    covered = [0]
    for word, times in steps:
        last = covered[-1]
        reached = None
        for name, value in system.simple:
            if name == word and times == 0 and value <= last + 1:
                reached = value
        for name, value, most, unsaid, rest in system.multipliers:
            fits = times >= 1 and times * value <= last + 1 and (most is None or times <= most)
            if name == word and fits and (times <= last or (times == 1 and unsaid)):
                reached = times * value + min(rest, last)
        if reached is None:
            return False
        covered.extend(range(last + 1, reached + 1))
    return covered[-1] >= bound


class Rows:
    """The rows of a system without the limits that a system has."""

    def __init__(self, simple, multipliers):
        self.simple = tuple(simple)
        self.multipliers = tuple(multipliers)


def small_system(chance):
    """A system of few words with small values, so that all of its numbers can be looked through."""
    simple = [(word, chance.randint(1, 9)) for word in "abcd"[:chance.randint(0, 4)]]
    multipliers = []
    endless = chance.randint(0, 4)
    for at, word in enumerate("uvwx"[:chance.randint(0, 4)]):
        value = chance.randint(2, 9)
        count = None if at == endless else chance.randint(1, 10)
        multipliers.append((word, value, count, chance.random() < 0.6, chance.randint(0, value - 1)))
    return System(simple, multipliers)


def first_phrase(system, number, known):
    """[B2], [H1]: what is said of a number, or None; known is a dict for what was found out."""
    if number not in known:
        known[number] = next(first_phrases(system, number, known), None)
    return known[number]


def first_phrases(system, number, known):
    """The first phrase with each outermost word of a number, in order."""
    yield from [(word,) for word, value in system.simple if value == number]
    for word, value, most, unsaid, greatest_rest in system.multipliers:
        count, rest = divmod(number, value)
        if 1 <= count <= (number if most is None else most) and rest <= greatest_rest:
            ahead = () if unsaid and count == 1 else first_phrase(system, count, known)
            behind = () if rest == 0 else first_phrase(system, rest, known)
            if ahead is not None and behind is not None:
                yield ahead + (word,) + behind


def derivation_trees(system, number, known):
    """[B1], [B2]: the trees of all derivations of a number, in order."""
    if number not in known:
        found = [word for word, value in system.simple if value == number]
        for word, value, most, unsaid, greatest_rest in system.multipliers:
            count, rest = divmod(number, value)
            if 1 <= count <= (number if most is None else most) and rest <= greatest_rest:
                ahead = [None] if unsaid and count == 1 else derivation_trees(system, count, known)
                behind = [None] if rest == 0 else derivation_trees(system, rest, known)
                found.extend([(first, word, last) for first in ahead for last in behind])
        known[number] = found
    return known[number]


def tree_value(system, tree):
    """The number of a tree, or None if it is no derivation of the system."""
    if isinstance(tree, str):
        return system.simple_value(tree)
    first, word, last = tree
    row = system.multiplier(word)
    if row is None:
        return None
    count = 1 if first is None else tree_value(system, first)
    rest = 0 if last is None else tree_value(system, last)
    if count is None or rest is None or rest > row[4] or (row[2] is not None and count > row[2]):
        return None
    if (first is None) != (row[3] and count == 1):
        return None
    return count * row[1] + rest


def tree_phrase(tree):
    if tree is None:
        return ()
    if isinstance(tree, str):
        return (tree,)
    return tree_phrase(tree[0]) + (tree[1],) + tree_phrase(tree[2])


class Two:
    """[G1] to [G3] for two systems that define no word differently, with M and X up to top."""

    def __init__(self, first, second, top):
        self.first = first
        self.second = second
        self.top = top
        self.known = {}

    def common_phrases(self, number):
        trees = derivation_trees(self.first, number, self.known)
        return [tree_phrase(tree) for tree in trees if tree_value(self.second, tree) is not None]

    def conflicts(self):
        """The triples (conflict, phrase, numbers)."""
        words = [row[0] for row in self.first.multipliers if self.second.multiplier(row[0]) is not None]
        return [found for p in words for q in words for found in self.conflicts_of(p, q)]

    def first_count(self, word):
        rows = (self.first.multiplier(word), self.second.multiplier(word))
        if rows[0][3] and rows[1][3]:
            return 0
        for count in range(1 if rows[0][3] == rows[1][3] else 2, self.top + 1):
            if all(row[2] is None or count <= row[2] for row in rows) and self.common_phrases(count):
                return count
        return None

    def conflicts_of(self, p_word, q_word):
        p_rows = (self.first.multiplier(p_word), self.second.multiplier(p_word))
        q_rows = (self.first.multiplier(q_word), self.second.multiplier(q_word))
        x = self.first_count(p_word)
        for m in range(self.top + 1 if x is not None else 0):
            p = (x or 1) * p_rows[0][1]
            q = (m or 1) * q_rows[0][1]
            spoken_first = q_rows[0][3] if m == 0 else spoken(q_rows[0], m) and self.common_phrases(m)
            rests = q <= p_rows[0][4] and m <= p_rows[0][4] and m <= p_rows[1][4]
            if spoken_first and rests and spoken(q_rows[1], p + m):
                ahead = self.common_phrases(x)[0] if x else ()
                between = self.common_phrases(m)[0] if m else ()
                phrase = ahead + (p_word,) + between + (q_word,)
                yield (p_word, q_word, x, m), phrase, (p + q, (p + m) * q_rows[0][1])


def small_pair(chance):
    """Two small systems that define no word differently, with many words in common."""
    first = small_system(chance)
    simple = [row for row in first.simple if chance.random() < 0.8]
    simple.extend([(word, chance.randint(1, 9)) for word in "ef" if chance.random() < 0.3])
    rows = [row for row in first.multipliers if chance.random() < 0.85]
    rows.extend([(word, chance.randint(2, 9), 1, True, 1) for word in "yz" if chance.random() < 0.2])
    endless = chance.randint(0, 5)
    changed = []
    for at, (word, value, count, unsaid, rest) in enumerate(rows):
        if at == endless:
            count = None
        elif count is None or chance.random() < 0.6:
            count = chance.randint(1, 12)
        if chance.random() < 0.3:
            unsaid = not unsaid
        if chance.random() < 0.5:
            rest = chance.randint(0, value - 1)
        changed.append((word, value, count, unsaid, rest))
    chance.shuffle(simple)
    chance.shuffle(changed)
    second = System(simple, changed)
    return (first, second) if chance.random() < 0.5 else (second, first)

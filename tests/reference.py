"""The document's definitions, followed word by word and without regard to time: what the tests compare with."""

import re

LINE = re.compile(
    r" *"
    r"(?:(?P<word>[a-z]{1,8}) +(?P<value>0|[1-9][0-9]{0,5})"
    r"(?: +(?:up +to +(?P<count>0|[1-9][0-9]{0,5})|without +end) +rest +(?P<rest>0|[1-9][0-9]{0,5})"
    r"(?P<unsaid> +one +unsaid)?)?"
    r" *)?"
)

ENDINGS = tuple(
    line[at:]
    for line in ("aaaaaaaa 1 up to 1 rest 1 one unsaid", "a 1 without end rest 1 one unsaid")
    for at in range(len(line) + 1)
)


def is_text(text):
    return all(LINE.fullmatch(line) for line in text.split("\n"))


def begins_text(text):
    """[A5], with all the endings that can be needed."""
    whole, feed, line = text.rpartition("\n")
    if feed and not is_text(whole):
        return False
    return any(LINE.fullmatch(line + ending) for ending in ENDINGS)


def wrong_place(text):
    """The position at which a text goes wrong, or None."""
    for at in range(len(text)):
        if not begins_text(text[:at + 1]):
            return at
    return None if is_text(text) else len(text)


def trees(system, number, known=None):
    """All derivations of a number in the order of [B2], each as its phrase."""
    if known is None:
        known = {}
    if number in known:
        return known[number]
    found = [(word,) for word, value in system.simple if value == number]
    for word, value, most, unsaid, greatest_rest in system.multipliers:
        for rest in range(greatest_rest + 1):
            if (number - rest) % value:
                continue
            count = (number - rest) // value
            if count < 1 or (most is not None and count > most):
                continue
            ahead = [()] if unsaid and count == 1 else trees(system, count, known)
            behind = [()] if rest == 0 else trees(system, rest, known)
            found.extend([first + (word,) + last for first in ahead for last in behind])
    known[number] = found
    return found

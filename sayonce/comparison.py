"""What phrases of the one system mean in another one: false friends and translations (part G)."""

from sayonce.conflicts import Passage
from sayonce.derivations import check_phrase, nth_phrase
from sayonce.ways import Chart, peel, ways_of


def false_friend(first, second):
    """The direction, the first conflict, its phrase and what this means in both systems, or None; raises Mismatch."""
    forward = Passage(first, second)
    found = forward.conflicts()
    if found:
        return "forward", found[0], forward.phrase(found[0]), forward.numbers(found[0])
    backward = Passage(second, first)
    found = backward.conflicts()
    if found:
        in_second, in_first = backward.numbers(found[0])
        return "backward", found[0], backward.phrase(found[0]), (in_first, in_second)
    return None


def conflict_counts(first, second):
    """The pair of how many conflicts there are in each of the two directions; raises Mismatch."""
    return len(Passage(first, second).conflicts()), len(Passage(second, first).conflicts())


def interpret(first, second, phrase):
    """The ascending tuple of all numbers that a phrase of the first system means in the second one."""
    check_phrase(first, phrase)
    return Chart(second, None).read_phrase(phrase)


def translate(first, second, phrase):
    """The pairs of each number that a phrase means in the first system and its phrase in the second one, or None."""
    check_phrase(first, phrase)
    ways = ways_of(second)
    numbers = Chart(first, None).read_phrase(phrase)
    return tuple([(number, nth_phrase(second, ways, peel(second, number), 0)) for number in numbers])

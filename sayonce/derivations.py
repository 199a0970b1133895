"""Derivations of a number: how many, which one has an index, and which is the shortest (part B)."""

from sayonce.errors import SayError
from sayonce.ways import Finder, last_place, peel, ways_of


class UnknownWord(SayError):
    """A phrase with a word that the system does not have: the index of the first one."""

    def __init__(self, number):
        self.number = number


def check_phrase(system, phrase):
    """Raises UnknownWord for the first word that the system does not have."""
    for number, word in enumerate(phrase):
        if system.simple_value(word) is None and system.multiplier(word) is None:
            raise UnknownWord(number)


def derivation_count(system, number):
    """How many derivations a number has."""
    ways = ways_of(system)
    head, rests = peel(system, number)
    total = ways.many_of(head)
    for rest in rests:
        total *= ways.many_of(rest)
    return total


def joined(system, head, pieces):
    """The phrase of a head, and then of pieces, given from the last to the first, each behind the endless word."""
    words = list(head)
    for piece in reversed(pieces):
        words.append(system.endless()[0])
        words.extend(piece)
    return tuple(words)


def nth_phrase(system, ways, peeled, index):
    """The phrase of the derivation with this index, from 0 on, of a number that peel has taken apart, or None."""
    head, rests = peeled
    left = index
    pieces = []
    for rest in rests:
        many = ways.many_of(rest)
        if many == 0:
            return None
        left, place = divmod(left, many)
        pieces.append(ways.phrase_of(rest, place))
    phrase = ways.phrase_of(head, left)
    if phrase is None:
        return None
    return joined(system, phrase, pieces)


def phrase_at(system, number, index):
    """The phrase of the derivation with this index, or None."""
    if index < 0:
        return None
    return nth_phrase(system, ways_of(system), peel(system, number), index)


def index_of(system, number, phrase):
    """The index of the first derivation of the number that yields the phrase, or None."""
    words = tuple(phrase)
    check_phrase(system, words)
    ways = ways_of(system)
    finder = Finder(ways, words)
    head, rests = peel(system, number)
    stop = len(words)
    places = []
    for rest in rests:
        # The endless word cannot stand in a rest, which is less than its value.
        at = last_place(words, system.endless()[0], 0, stop)
        if at < 0:
            return None
        place = finder.index_within(rest, at + 1, stop)
        if place is None:
            return None
        places.append((place, ways.many_of(rest)))
        stop = at
    index = finder.index_within(head, 0, stop)
    if index is None:
        return None
    for place, many in reversed(places):
        index = index * many + place
    return index


def shortest_phrase(system, number):
    """The phrase of the shortest derivation, or None."""
    ways = ways_of(system)
    head, rests = peel(system, number)
    phrase = ways.shortest_of(head)
    pieces = [ways.shortest_of(rest) for rest in rests]
    if phrase is None or None in pieces:
        return None
    return joined(system, phrase, pieces)


def phrases_of(system, number, *, most=100):
    """The phrases of the first derivations of a number, in order, up to most of them."""
    ways = ways_of(system)
    peeled = peel(system, number)
    told = min(most, derivation_count(system, number))
    return tuple([nth_phrase(system, ways, peeled, index) for index in range(told)])

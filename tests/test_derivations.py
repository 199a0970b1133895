"""Derivations of numbers: [B1] to [B4]."""

import random
import unittest

from sayonce.derivations import UnknownWord, derivation_count, index_of, phrase_at, phrases_of, shortest_phrase
from sayonce.errors import SayError
from sayonce.systems import System
from tests.reference import trees

EXAMPLE = System([("a", 1), ("b", 2), ("two", 2), ("x", 10)], [("f", 5, 4, True, 4)])

# Two words for each digit, so that a number without zeros has 2 ** digits derivations.
DOUBLED = System(
    [(first + digit, value) for first in "pq" for value, digit in enumerate("abcdefghi", 1)],
    [("ten", 10, None, False, 9)],
)

# Nothing but one word: the powers of two are said.
BARE = System([], [("w", 2, None, True, 1)])

SYSTEMS = (
    EXAMPLE,
    System([], []),
    BARE,
    System([], [("w", 3, None, False, 2)]),
    System([("a", 1)], [("w", 2, None, False, 1)]),
    System([("a", 1), ("aa", 1)], [("w", 2, None, True, 1)]),
    System([("a", 1), ("b", 2)], [("f", 5, 4, False, 4)]),
    System([("a", 1), ("b", 2), ("c", 3), ("d", 4)], [("f", 5, 30, True, 4), ("t", 25, None, True, 24)]),
    System([("a", 1), ("b", 2), ("c", 3), ("d", 4)], [("t", 25, None, False, 23), ("f", 5, 4, True, 4)]),
    System([("a", 1), ("z", 40)], [("d", 2, 20, True, 1), ("e", 3, 20, False, 2), ("g", 2, None, True, 1), ("h", 2, 9, True, 0)]),
    System([("b", 2), ("c", 3)], [("f", 4, None, True, 2), ("g", 6, 12, True, 5), ("h", 4, 11, False, 3)]),
    System([("a", 1), ("b", 1), ("c", 7)], [("m", 7, 9, True, 6), ("n", 7, 9, False, 6), ("o", 14, None, True, 3)]),
    System([("k", 100)], [("f", 5, 2, True, 1), ("t", 6, None, True, 5)]),
)


class Examples(unittest.TestCase):
    def test_document(self):
        self.assertEqual(derivation_count(EXAMPLE, 12), 4)
        self.assertEqual(
            phrases_of(EXAMPLE, 12),
            (("b", "f", "b"), ("b", "f", "two"), ("two", "f", "b"), ("two", "f", "two")),
        )
        self.assertEqual(index_of(EXAMPLE, 12, ("two", "f", "b")), 2)
        self.assertEqual(shortest_phrase(EXAMPLE, 10), ("x",))

    def test_unsaid_one(self):
        said = System([("a", 1)], [("f", 5, 2, False, 1)])
        unsaid = System([("a", 1)], [("f", 5, 2, True, 1)])
        self.assertEqual(phrases_of(said, 6), (("a", "f", "a"),))
        self.assertEqual(phrases_of(unsaid, 6), (("f", "a"),))
        self.assertIsNone(index_of(unsaid, 6, ("a", "f", "a")))
        self.assertIsNone(index_of(said, 6, ("f", "a")))
        self.assertEqual(derivation_count(System([], [("f", 5, 2, False, 1)]), 5), 0)
        self.assertEqual(phrases_of(System([], [("f", 5, 2, True, 1)]), 5), (("f",),))
        self.assertEqual(derivation_count(System([], [("f", 5, 2, True, 1)]), 6), 0)

    def test_shortest_is_the_first_of_the_shortest(self):
        system = System([("a", 1), ("b", 2), ("c", 3)], [("e", 2, 9, True, 1), ("f", 4, 9, True, 3), ("g", 5, 9, True, 4)])
        self.assertEqual(phrases_of(system, 6), (("c", "e"), ("e", "a", "e"), ("f", "b"), ("f", "e"), ("g", "a")))
        self.assertEqual(shortest_phrase(system, 6), ("c", "e"))
        turned = System(system.simple, system.multipliers[::-1])
        self.assertEqual(shortest_phrase(turned, 6), ("g", "a"))
        doubled = System([("a", 1), ("b", 2), ("bb", 2)], [("f", 5, 9, True, 4)])
        self.assertEqual(shortest_phrase(doubled, 12), ("b", "f", "b"))

    def test_shortest(self):
        system = System([("a", 1), ("b", 2), ("bb", 2)], [("f", 2, 9, False, 1), ("g", 5, 9, True, 4)])
        self.assertEqual(shortest_phrase(system, 7), ("g", "b"))
        self.assertEqual(shortest_phrase(system, 2), ("b",))
        self.assertIsNone(shortest_phrase(system, 1000))


class Compared(unittest.TestCase):
    """Each system with the reference, for each number from 1 on."""

    def test_small_numbers(self):
        for system in SYSTEMS:
            known = {}
            for number in range(1, 181):
                self.compare(system, number, trees(system, number, known))

    def test_some_systems(self):
        chance = random.Random(11)
        for _ in range(40):
            system = some_system(chance)
            known = {}
            for number in range(1, 90):
                phrases = trees(system, number, known)
                if len(phrases) <= 300:
                    self.compare(system, number, phrases)

    def compare(self, system, number, phrases):
        told = (system.simple, system.multipliers, number)
        self.assertEqual(derivation_count(system, number), len(phrases), told)
        self.assertEqual(phrases_of(system, number, most=len(phrases) + 1), tuple(phrases), told)
        self.assertEqual(phrases_of(system, number), tuple(phrases[:100]), told)
        for index, phrase in enumerate(phrases):
            self.assertEqual(phrase_at(system, number, index), phrase, told)
            self.assertEqual(index_of(system, number, phrase), phrases.index(phrase), told)
        for index in (-1, len(phrases), len(phrases) + 1, -len(phrases), 10 ** 70, -10 ** 70):
            if not 0 <= index < len(phrases):
                self.assertIsNone(phrase_at(system, number, index), told)
        shortest = min(phrases, key=len) if phrases else None
        self.assertEqual(shortest_phrase(system, number), shortest, told)

    def test_phrases_of_other_numbers(self):
        for system in SYSTEMS:
            known = {}
            for number in range(1, 36):
                for phrase in trees(system, number, known):
                    for other in range(1, 36):
                        there = trees(system, other, known)
                        index = there.index(phrase) if phrase in there else None
                        self.assertEqual(index_of(system, other, phrase), index)


class LargeNumbers(unittest.TestCase):
    def test_count_of_digits(self):
        number = int("123456789" * 20)
        self.assertEqual(derivation_count(DOUBLED, number), 2 ** 180)
        self.assertEqual(derivation_count(DOUBLED, number * 10), 2 ** 180)
        self.assertEqual(derivation_count(DOUBLED, 10 ** 60), 2)

    def test_each_end(self):
        number = int("123456789" * 20)
        first = phrase_at(DOUBLED, number, 0)
        last = phrase_at(DOUBLED, number, 2 ** 180 - 1)
        self.assertEqual(len(first), 359)
        self.assertEqual(first[:5], ("pa", "ten", "pb", "ten", "pc"))
        self.assertEqual(last[-5:], ("qg", "ten", "qh", "ten", "qi"))
        self.assertEqual(index_of(DOUBLED, number, first), 0)
        self.assertEqual(index_of(DOUBLED, number, last), 2 ** 180 - 1)
        self.assertEqual(shortest_phrase(DOUBLED, number), first)
        for index in (2 ** 180, 2 ** 180 + 1, 10 ** 1000, -1, -2 ** 180):
            self.assertIsNone(phrase_at(DOUBLED, number, index))

    def test_indexes_between(self):
        number = int("987654321" * 9)
        for index in (1, 2, 2 ** 80 - 1, 2 ** 80, 3 ** 50, 2 ** 81 - 2):
            phrase = phrase_at(DOUBLED, number, index)
            self.assertEqual(index_of(DOUBLED, number, list(phrase)), index)
            picks = [word[0] for word in phrase if word != "ten"]
            self.assertEqual(int("".join(picks).replace("p", "0").replace("q", "1"), 2), index)

    def test_first_phrases(self):
        number = int("1" * 70)
        told = phrases_of(DOUBLED, number)
        self.assertEqual(len(told), 100)
        self.assertEqual([index_of(DOUBLED, number, phrase) for phrase in told], list(range(100)))
        self.assertEqual(phrases_of(DOUBLED, number, most=3), told[:3])
        self.assertEqual(phrases_of(DOUBLED, number, most=0), ())
        self.assertEqual(len(phrases_of(DOUBLED, number, most=101)), 101)
        self.assertEqual(phrases_of(DOUBLED, 10 ** 70, most=10 ** 70), phrases_of(DOUBLED, 10 ** 70))

    def test_zeros_inside(self):
        self.assertEqual(phrase_at(DOUBLED, 10 ** 60, 1), ("qa",) + ("ten",) * 60)
        self.assertEqual(index_of(DOUBLED, 10 ** 60, ("qa",) + ("ten",) * 60), 1)
        for count in (59, 61):
            self.assertIsNone(index_of(DOUBLED, 10 ** 60, ("qa",) + ("ten",) * count))
        self.assertIsNone(index_of(DOUBLED, 10 ** 60, ("ten",) * 60))
        self.assertIsNone(index_of(DOUBLED, 10 ** 60, ("qa",) * 5 + ("ten",) * 60))
        self.assertIsNone(index_of(DOUBLED, 10 ** 60, ("qa",) + ("ten",) * 60 + ("qa",)))

    def test_long_rows(self):
        power = 2 ** 20000
        self.assertEqual(derivation_count(BARE, power), 1)
        self.assertEqual(phrase_at(BARE, power, 0), ("w",) * 20000)
        self.assertEqual(shortest_phrase(BARE, power), ("w",) * 20000)
        self.assertEqual(index_of(BARE, power, ("w",) * 20000), 0)
        self.assertIsNone(index_of(BARE, power, ("w",) * 19999))
        self.assertIsNone(index_of(BARE, 16, ("w",) * 20000))
        self.assertEqual(derivation_count(BARE, power + 1), 0)
        self.assertIsNone(phrase_at(BARE, power + 1, 0))
        self.assertIsNone(shortest_phrase(BARE, power + 1))
        self.assertEqual(phrases_of(BARE, power + 1), ())
        self.assertIsNone(index_of(BARE, power + 1, ("w",) * 20000))

    def test_rests_without_derivations(self):
        system = System([("a", 1), ("c", 3)], [("t", 10, None, True, 3)])
        number = int("31" * 40)
        self.assertEqual(derivation_count(system, number), 1)
        self.assertEqual(phrase_at(system, number, 0), ("c",) + ("t", "a", "t", "c") * 39 + ("t", "a"))
        for digit in "24":
            wrong = int("31" * 40 + digit + "31" * 5)
            self.assertEqual(derivation_count(system, wrong), 0)
            self.assertIsNone(phrase_at(system, wrong, 0))
            self.assertIsNone(shortest_phrase(system, wrong))
            self.assertEqual(phrases_of(system, wrong), ())
            self.assertIsNone(index_of(system, wrong, ("c", "t", "a")))

    def test_one_unsaid_in_front(self):
        system = System([("a", 1), ("b", 2)], [("t", 100, None, True, 99), ("x", 10, 9, True, 9)])
        self.assertEqual(phrases_of(system, 10 ** 40), (("t",) * 20,))
        self.assertEqual(phrases_of(system, 10 ** 41), (("x",) + ("t",) * 20,))
        self.assertEqual(phrases_of(system, 10 ** 40 + 12), (("t",) * 20 + ("x", "b"),))
        self.assertIsNone(index_of(system, 10 ** 40, ("a",) + ("t",) * 20))

    def test_no_endless_multiplier(self):
        for number in (25, 10 ** 6, 10 ** 60):
            self.assertEqual(derivation_count(EXAMPLE, number), 0)
            self.assertIsNone(phrase_at(EXAMPLE, number, 0))
            self.assertIsNone(index_of(EXAMPLE, number, ("x", "f")))
            self.assertIsNone(shortest_phrase(EXAMPLE, number))
            self.assertEqual(phrases_of(EXAMPLE, number), ())

    def test_shortest_of_a_large_number(self):
        system = System([("a", 1), ("b", 2), ("z", 77)], [("f", 7, 11, True, 6), ("h", 100, None, False, 99)])
        number = 77 * 100 ** 40 + 77
        count = derivation_count(system, number)
        self.assertEqual(shortest_phrase(system, number), ("z",) + ("h",) * 40 + ("z",))
        self.assertEqual(count, derivation_count(system, 77) ** 2)

    def test_the_bounded_maximum_itself(self):
        system = System([("a", 1), ("b", 2), ("x", 10)], [("t", 5, None, True, 4)])
        self.assertEqual(phrases_of(system, 10), (("x",), ("b", "t")))
        self.assertEqual((index_of(system, 10, ["x"]), index_of(system, 10, ["b", "t"])), (0, 1))
        self.assertEqual(phrases_of(system, 11), (("b", "t", "a"),))
        system = System([("a", 1), ("b", 2)], [("t", 5, None, True, 4), ("f", 4, 2, True, 2)])
        self.assertEqual(phrases_of(system, 10), (("b", "t"), ("b", "f", "b")))
        self.assertEqual(index_of(system, 10, ["b", "f", "b"]), 1)

    def test_below_the_bounded_maximum_all_multipliers_count(self):
        system = System([("a", 1), ("b", 2), ("z", 5000)], [("h", 10, None, False, 9), ("f", 10, 9, False, 9)])
        self.assertEqual(phrases_of(system, 20), (("b", "h"), ("b", "f")))
        self.assertEqual(phrases_of(system, 2002), (("b", "h", "h", "h", "b"), ("b", "f", "h", "h", "b")))
        self.assertEqual(index_of(system, 20020, ("b", "f", "h", "h", "b", "h")), 1)
        self.assertIsNone(index_of(system, 20020, ("b", "f", "h", "h", "b")))
        self.assertIsNone(index_of(system, 20020, ("b", "h", "f", "h", "b", "h")))
        self.assertEqual(derivation_count(system, 200200), 2)
        self.assertEqual(phrases_of(system, 20000), (("b", "h", "h", "h", "h"), ("b", "f", "h", "h", "h")))
        self.assertEqual(phrases_of(system, 50001), (("z", "h", "a"),))


class WrongInputs(unittest.TestCase):
    def unknown(self, system, number, phrase):
        with self.assertRaises(UnknownWord) as caught:
            index_of(system, number, phrase)
        return caught.exception.number

    def test_unknown_words(self):
        self.assertTrue(issubclass(UnknownWord, SayError))
        self.assertEqual(UnknownWord(4).number, 4)
        self.assertEqual(self.unknown(EXAMPLE, 12, ("b", "f", "q")), 2)
        self.assertEqual(self.unknown(EXAMPLE, 12, ["z", "f", "q"]), 0)
        self.assertEqual(self.unknown(EXAMPLE, 10 ** 60, ("a", "", "A")), 1)
        self.assertEqual(self.unknown(EXAMPLE, 1, ("a",) * 5000 + ("aa",)), 5000)
        self.assertEqual(self.unknown(System([], []), 1, ("a",)), 0)

    def test_phrases_that_are_none(self):
        self.assertIsNone(index_of(EXAMPLE, 12, ()))
        self.assertIsNone(index_of(EXAMPLE, 12, []))
        self.assertIsNone(index_of(EXAMPLE, 12, ("f", "f", "f")))
        self.assertIsNone(index_of(EXAMPLE, 12, ("a", "b")))
        self.assertIsNone(index_of(EXAMPLE, 12, ("a",) * 5000))
        self.assertIsNone(index_of(System([], []), 5, ()))

    def test_numbers_below_one(self):
        for system in SYSTEMS:
            for number in (0, -1, -5, -10 ** 60):
                self.assertEqual(derivation_count(system, number), 0)
                self.assertIsNone(phrase_at(system, number, 0))
                self.assertIsNone(index_of(system, number, ()))
                self.assertIsNone(shortest_phrase(system, number))
                self.assertEqual(phrases_of(system, number), ())

    def test_arguments_stay(self):
        phrase = ["two", "f", "b"]
        self.assertEqual(index_of(EXAMPLE, 12, phrase), 2)
        self.assertEqual(phrase, ["two", "f", "b"])
        self.assertEqual(EXAMPLE.simple, (("a", 1), ("b", 2), ("two", 2), ("x", 10)))

    def test_most_is_passed_by_keyword(self):
        with self.assertRaises(TypeError):
            phrases_of(EXAMPLE, 12, 3)
        self.assertEqual(phrases_of(EXAMPLE, 12, most=-1), ())


def some_system(chance):
    simple = [(word, chance.randint(1, 9)) for word in "abcde"[:chance.randint(0, 5)]]
    multipliers = []
    endless = chance.randint(0, 4)
    for at, word in enumerate("uvwx"[:chance.randint(1, 4)]):
        value = chance.randint(2, 12)
        count = None if at == endless else chance.randint(1, 12)
        multipliers.append((word, value, count, chance.random() < 0.5, chance.randint(0, value - 1)))
    return System(simple, multipliers)


if __name__ == "__main__":
    unittest.main()

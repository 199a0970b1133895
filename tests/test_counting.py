"""Counting words: [H1] and [H2]."""

import random
import unittest

from sayonce.counting import BadRange, Counting, WordMissing, longest_said, times_said, words_said
from sayonce.coverage import sayable_count
from sayonce.derivations import phrase_at
from sayonce.errors import SayError
from sayonce.systems import System
from tests.reference import first_phrase, small_system

DIGITS = [("a", 1), ("b", 2), ("c", 3), ("d", 4)]
EXAMPLE = System(DIGITS, [("f", 5, 4, True, 4), ("t", 25, None, True, 24)])
GAPS = System(DIGITS[:2], [("f", 5, 4, False, 4)])
EMPTY = System([], [])
BINARY = System([("a", 1)], [("w", 2, None, True, 1)])
LARGE = System([("a", 1), ("b", 2)], [
    ("y", 50000, 1, True, 49999), ("x", 30000, 2, False, 29999), ("u", 3, 33332, True, 2), ("z", 100000, None, True, 99999),
])


def small_range(chance, system, longest):
    """The first and the last number of a range: of small numbers, about the bounded maximum, or of great ones."""
    kind = chance.random()
    if kind < 0.4:
        start = chance.randint(1, 20)
    elif kind < 0.7:
        start = max(1, system.bounded_maximum() + chance.randint(-30, 30))
    else:
        start = chance.randint(1, 10 ** chance.randint(1, 45))
    return start, start + chance.choice([0, 1, chance.randint(0, 30), chance.randint(0, longest)])


def some_system(chance):
    """A small system, or one in which the endless multiplier's rests have gaps."""
    if chance.random() < 0.7:
        return small_system(chance)
    simple = [(word, chance.randint(1, 40)) for word in "abc"]
    rows = [("u", chance.randint(2, 200), None, chance.random() < 0.5, 1)]
    rows.append(("v", chance.randint(2, 20), chance.randint(1, 20), chance.random() < 0.5, 1))
    chance.shuffle(rows)
    return System(simple, rows)


class Words(unittest.TestCase):
    def test_document(self):
        self.assertEqual(words_said(EXAMPLE, 1, 10), 15)
        self.assertEqual(times_said(EXAMPLE, 1, 24, "f"), 20)

    def test_one_number(self):
        for number, many in ((1, 1), (5, 1), (9, 2), (10, 2), (25, 1), (26, 2), (36, 4), (24, 3)):
            self.assertEqual(words_said(EXAMPLE, number, number), many)
        self.assertEqual(words_said(BINARY, 2 ** 200, 2 ** 200), 200)
        self.assertEqual(words_said(BINARY, 2 ** 200 - 1, 2 ** 200 - 1), 398)
        self.assertEqual(times_said(BINARY, 2 ** 200 - 1, 2 ** 200 - 1, "a"), 199)
        self.assertEqual(times_said(BINARY, 2 ** 200, 2 ** 200, "a"), 0)

    def test_nothing_said(self):
        # 1, 2, 5, 6, 7, 10, 11 and 12: a, b, a f, a f a, a f b, b f, b f a, b f b.
        self.assertEqual([words_said(GAPS, n, n) for n in range(1, 13)], [1, 1, 0, 0, 2, 3, 3, 0, 0, 2, 3, 3])
        self.assertEqual(words_said(GAPS, 1, 12), 18)
        self.assertEqual(words_said(GAPS, 3, 4), 0)
        self.assertEqual(words_said(GAPS, 13, 10 ** 60), 0)
        self.assertEqual(words_said(GAPS, 1, 10 ** 60), 18)
        self.assertEqual(times_said(GAPS, 1, 10 ** 60, "f"), 6)
        self.assertEqual(times_said(GAPS, 1, 10 ** 60, "a"), 1 + 3 + 0 + 2)

    def test_without_words(self):
        self.assertEqual(words_said(EMPTY, 1, 10 ** 50), 0)
        self.assertEqual(words_said(EMPTY, 7, 7), 0)

    def test_first_derivations_count(self):
        # 2 is said b, not w; 4 is d ahead of w w.
        system = System([("b", 2), ("x", 2), ("d", 4)], [("w", 2, None, True, 1)])
        self.assertEqual(words_said(system, 2, 4), 2)
        self.assertEqual([times_said(system, 1, 8, word) for word in "bxdw"], [1, 0, 2, 1])
        turned = System([("x", 2), ("b", 2)], [("w", 2, None, True, 1)])
        self.assertEqual([times_said(turned, 1, 4, word) for word in "bxw"], [0, 2, 1])
        # The order of the multipliers tells the first one.
        rows = [("f", 2, 50, True, 1), ("g", 4, 25, True, 3)]
        self.assertEqual([times_said(System([], order), 4, 4, "g") for order in (rows, rows[::-1])], [0, 1])

    def test_unsaid_one(self):
        # 1 has no word, and can be a count all the same.
        system = System([("b", 2)], [("t", 10, None, True, 9)])
        self.assertEqual([words_said(system, n, n) for n in (1, 2, 10, 11, 12, 20, 22, 100, 102)], [0, 1, 1, 0, 2, 2, 3, 2, 3])
        self.assertEqual(words_said(system, 1, 22), 1 + 1 + 2 + 2 + 3)
        self.assertEqual(words_said(system, 1, 109), 9 + 2 + 3)
        # 1 has a word, which is not said ahead of the multiplier.
        system = System([("a", 1)], [("t", 10, None, True, 9)])
        self.assertEqual(times_said(system, 1, 10 ** 20 - 1, "a"), 20 * 2 ** 19 - (2 ** 20 - 2))

    def test_long_ranges(self):
        # Of 1 to 2 ** n - 1 with w for two: as many w as there are digits behind the first one.
        for many in (1, 5, 40, 150):
            stop = 2 ** many - 1
            digits = sum([2 ** (k - 1) * (k - 1) for k in range(1, many + 1)])
            ones = many * 2 ** (many - 1)
            self.assertEqual(times_said(BINARY, 1, stop, "w"), digits)
            # The first digit of 1 alone is said.
            self.assertEqual(times_said(BINARY, 1, stop, "a"), ones - (stop - 1))
            self.assertEqual(words_said(BINARY, 1, stop), digits + ones - (stop - 1))
        self.assertEqual(words_said(BINARY, 1, 10 ** 300), words_said(BINARY, 1, 10 ** 299) + words_said(BINARY, 10 ** 299 + 1, 10 ** 300))

    def test_ranges_are_put_together(self):
        chance = random.Random(41)
        for _ in range(200):
            system = some_system(chance)
            start = chance.randint(1, 10 ** chance.randint(1, 50))
            middle = start + chance.randint(0, 10 ** chance.randint(1, 50))
            stop = middle + chance.randint(1, 10 ** chance.randint(1, 50))
            whole = words_said(system, start, middle) + words_said(system, middle + 1, stop)
            self.assertEqual(words_said(system, start, stop), whole)
            self.assertEqual(sum([times_said(system, start, stop, word) for word in system.words()]), whole)

    def test_about_the_bounded_maximum(self):
        known = {}
        self.assertEqual(LARGE.bounded_maximum(), 99999)
        for start, stop in ((99990, 100010), (99999, 99999), (100000, 100000), (50000, 100001), (199990, 200010)):
            said = [first_phrase(LARGE, number, known) or () for number in range(start, stop + 1)]
            self.assertEqual(words_said(LARGE, start, stop), sum([len(phrase) for phrase in said]))
            for word in LARGE.words():
                self.assertEqual(times_said(LARGE, start, stop, word), sum([phrase.count(word) for phrase in said]))

    def test_as_defined(self):
        chance = random.Random(42)
        for _ in range(500):
            system = some_system(chance)
            start, stop = small_range(chance, system, 150)
            told = (system.simple, system.multipliers, start, stop)
            known = {}
            said = [first_phrase(system, number, known) for number in range(start, stop + 1)]
            phrases = [phrase for phrase in said if phrase is not None]
            self.assertEqual(words_said(system, start, stop), sum([len(phrase) for phrase in phrases]), told)
            for word in system.words():
                expected = sum([phrase.count(word) for phrase in phrases])
                self.assertEqual(times_said(system, start, stop, word), expected, (told, word))
            self.assertEqual(sayable_count(system, start, stop), len(phrases), told)

    def test_behind_the_endless_multiplier(self):
        """[H2], with numbers of many digits."""
        chance = random.Random(43)
        for _ in range(100):
            system = some_system(chance)
            row = system.endless()
            if row is None:
                continue
            count = chance.randint(system.bounded_maximum() // row[1] + 1, 10 ** 45)
            ahead = () if row[3] and count == 1 else phrase_at(system, count, 0)
            for rest in range(row[1]):
                number = count * row[1] + rest
                behind = () if rest == 0 else phrase_at(system, rest, 0)
                if ahead is None or behind is None or rest > row[4]:
                    self.assertEqual(words_said(system, number, number), 0)
                else:
                    self.assertEqual(phrase_at(system, number, 0), ahead + (row[0],) + behind)
                    self.assertEqual(words_said(system, number, number), len(ahead) + 1 + len(behind))


class Longest(unittest.TestCase):
    def test_document(self):
        self.assertEqual(longest_said(EXAMPLE, 25, 60), (36, ("t", "b", "f", "a")))

    def test_first_one_of_the_longest(self):
        self.assertEqual(longest_said(EXAMPLE, 1, 4), (1, ("a",)))
        self.assertEqual(longest_said(EXAMPLE, 1, 5), (1, ("a",)))
        self.assertEqual(longest_said(EXAMPLE, 1, 6), (6, ("f", "a")))
        # The one of ten is unsaid.
        tens = System([("a", 1), ("b", 2)], [("ten", 10, None, True, 9)])
        self.assertEqual(longest_said(tens, 10, 20), (11, ("ten", "a")))
        self.assertEqual(longest_said(tens, 10, 21), (21, ("b", "ten", "a")))
        self.assertEqual(longest_said(tens, 110, 210), (111, ("ten", "a", "ten", "a")))
        self.assertEqual(longest_said(tens, 112, 210), (112, ("ten", "a", "ten", "b")))
        self.assertEqual(longest_said(tens, 113, 210), (121, ("ten", "b", "ten", "a")))
        self.assertEqual(longest_said(tens, 123, 211), (211, ("b", "ten", "a", "ten", "a")))
        self.assertEqual(longest_said(EXAMPLE, 37, 60), (37, ("t", "b", "f", "b")))
        self.assertEqual(longest_said(EXAMPLE, 40, 60), (41, ("t", "c", "f", "a")))
        self.assertEqual(longest_said(EXAMPLE, 1, 3)[0], 1)
        self.assertEqual(longest_said(EXAMPLE, 50, 50), (50, ("b", "t")))

    def test_nothing_said(self):
        self.assertEqual(longest_said(GAPS, 3, 4), (3, ()))
        self.assertEqual(longest_said(GAPS, 13, 13 + 100000), (13, ()))
        self.assertEqual(longest_said(GAPS, 10 ** 50, 10 ** 50 + 7), (10 ** 50, ()))
        self.assertEqual(longest_said(EMPTY, 1, 100001), (1, ()))
        self.assertEqual(longest_said(EMPTY, 9, 9), (9, ()))
        self.assertEqual(longest_said(GAPS, 8, 10), (10, ("b", "f")))
        self.assertEqual(longest_said(GAPS, 3, 100003), (6, ("a", "f", "a")))

    def test_as_far_as_can_be(self):
        start = 10 ** 40
        number, phrase = longest_said(BINARY, start, start + 100000)
        expected = max(range(start, start + 100001), key=lambda n: bin(n).count("1"))
        self.assertEqual(number, expected)
        self.assertEqual(phrase, phrase_at(BINARY, number, 0))
        start = 10 ** 400
        self.assertEqual(longest_said(BINARY, start, start + 3)[0], start + 3)
        self.assertEqual(longest_said(BINARY, 1, 100001)[0], 98303)
        number, phrase = longest_said(LARGE, 1, 100001)
        known = {}
        lengths = [len(first_phrase(LARGE, n, known) or ()) for n in range(1, 100002)]
        self.assertEqual((number, len(phrase)), (lengths.index(max(lengths)) + 1, max(lengths)))
        number, phrase = longest_said(LARGE, 99000, 199000)
        lengths = [len(first_phrase(LARGE, n, known) or ()) for n in range(99000, 199001)]
        self.assertEqual((number, len(phrase)), (lengths.index(max(lengths)) + 99000, max(lengths)))

    def test_as_defined(self):
        chance = random.Random(44)
        for _ in range(600):
            system = some_system(chance)
            start, stop = small_range(chance, system, 300)
            known = {}
            said = [first_phrase(system, number, known) or () for number in range(start, stop + 1)]
            lengths = [len(phrase) for phrase in said]
            at = lengths.index(max(lengths))
            expected = (start + at, said[at]) if said[at] else (start, ())
            self.assertEqual(longest_said(system, start, stop), expected, (system.simple, system.multipliers, start, stop))


class Aloud(unittest.TestCase):
    def test_ordinary(self):
        counting = Counting(EXAMPLE, 4)
        self.assertEqual(counting.number, 4)
        self.assertEqual([counting.say() for _ in range(4)], [("d",), ("f",), ("f", "a"), ("f", "b")])
        self.assertEqual(counting.number, 8)
        counting = Counting(EXAMPLE, 24)
        self.assertEqual([counting.say() for _ in range(3)], [("d", "f", "d"), ("t",), ("t", "a")])

    def test_stays(self):
        counting = Counting(GAPS, 1)
        self.assertEqual([counting.say() for _ in range(5)], [("a",), ("b",), None, None, None])
        self.assertEqual(counting.number, 3)
        counting = Counting(EMPTY, 10 ** 70)
        self.assertEqual([counting.say(), counting.say(), counting.number], [None, None, 10 ** 70])

    def test_great_numbers(self):
        counting = Counting(EXAMPLE, 25 ** 30 - 2)
        for number in range(25 ** 30 - 2, 25 ** 30 + 3):
            self.assertEqual(counting.number, number)
            self.assertEqual(counting.say(), phrase_at(EXAMPLE, number, 0))

    def test_two_of_one_system(self):
        one, other = Counting(EXAMPLE, 1), Counting(EXAMPLE, 9)
        self.assertEqual([one.say(), other.say(), one.say(), other.say()], [("a",), ("f", "d"), ("b",), ("b", "f")])

    def test_as_defined(self):
        chance = random.Random(45)
        for _ in range(300):
            system = some_system(chance)
            start, _ = small_range(chance, system, 1)
            counting = Counting(system, start)
            known = {}
            for number in range(start, start + 30):
                phrase = first_phrase(system, number, known)
                self.assertEqual(counting.number, number)
                self.assertEqual(counting.say(), phrase)
                if phrase is None:
                    self.assertEqual((counting.number, counting.say(), counting.number), (number, None, number))
                    break

    def test_words_of_what_is_said(self):
        counting = Counting(EXAMPLE, 1)
        said = [counting.say() for _ in range(2000)]
        self.assertEqual(words_said(EXAMPLE, 1, 2000), sum([len(phrase) for phrase in said]))


class WrongInputs(unittest.TestCase):
    def test_kinds(self):
        for error in (BadRange, WordMissing):
            self.assertTrue(issubclass(error, SayError))
        self.assertFalse(issubclass(BadRange, WordMissing) or issubclass(WordMissing, BadRange))

    def test_ranges(self):
        for start, stop in ((0, 5), (-3, -1), (0, 0), (5, 4), (10 ** 50, 10 ** 49), (-1, 3), (1, 0)):
            for system in (EXAMPLE, EMPTY):
                for call in (words_said, longest_said):
                    with self.assertRaises(BadRange):
                        call(system, start, stop)
                # BadRange stands ahead of WordMissing.
                for word in ("a", "q"):
                    with self.assertRaises(BadRange):
                        times_said(system, start, stop, word)

    def test_too_many(self):
        for start in (1, 77, 10 ** 30):
            self.assertEqual(longest_said(EMPTY, start, start + 100000), (start, ()))
            for more in (100001, 10 ** 40):
                for system in (EXAMPLE, GAPS, EMPTY):
                    with self.assertRaises(BadRange):
                        longest_said(system, start, start + more)
        self.assertEqual(words_said(EMPTY, 1, 100002), 0)

    def test_words(self):
        for word in ("q", "", "F", "ab"):
            with self.assertRaises(WordMissing):
                times_said(EXAMPLE, 1, 10, word)
        with self.assertRaises(WordMissing):
            times_said(EMPTY, 1, 1, "a")

    def test_counting(self):
        for number in (0, -1, -10 ** 50):
            with self.assertRaises(BadRange):
                Counting(EXAMPLE, number)
        self.assertEqual(Counting(EXAMPLE, 1).say(), ("a",))


if __name__ == "__main__":
    unittest.main()

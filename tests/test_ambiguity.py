"""Phrases that mean two numbers, and conflicts: [D1] to [D5]."""

import itertools
import random
import unittest

from sayonce.ambiguity import NotMultiplier, conflict, is_ambiguous, max_count, max_rest, middles
from sayonce.derivations import UnknownWord, phrase_at
from sayonce.errors import SayError
from sayonce.phrases import values
from sayonce.systems import System
from tests.reference import conflicts, parses, small_system

DIGITS = [("a", 1), ("b", 2), ("c", 3), ("d", 4)]
EXAMPLE = System(DIGITS, [("f", 5, 30, True, 4), ("t", 25, None, True, 24)])
CLEAR = System(DIGITS, [("f", 5, 4, True, 4), ("t", 25, None, True, 24)])
EMPTY = System([], [])


class Examples(unittest.TestCase):
    def test_document(self):
        self.assertEqual(conflict(EXAMPLE), ("t", "f", 0, 0, ("t", "f"), (30, 125)))
        self.assertEqual(middles(EXAMPLE, "t", "f"), (0, 2, 3, 4))
        self.assertEqual(max_count(EXAMPLE, "f"), 24)
        self.assertEqual(max_count(EXAMPLE, "t"), 0)
        self.assertEqual(max_rest(EXAMPLE, "t"), 4)
        self.assertIsNone(max_rest(EXAMPLE, "f"))

    def test_no_conflict(self):
        self.assertIsNone(conflict(CLEAR))
        self.assertEqual(middles(CLEAR, "t", "f"), ())
        self.assertEqual(middles(CLEAR, "t", "t"), ())
        self.assertEqual((max_count(CLEAR, "f"), max_rest(CLEAR, "f")), (24, 4))
        self.assertEqual((max_count(CLEAR, "t"), max_rest(CLEAR, "t")), (None, 24))
        for system in (EMPTY, System(DIGITS, [])):
            self.assertIsNone(conflict(system))

    def test_said_ones(self):
        # 2 is the least number: b f b g is 2 times 10 and 2 times 3, or 22 times 3.
        system = System([("d", 4), ("b", 2)], [("g", 3, 22, False, 0), ("f", 10, 9, False, 6)])
        self.assertEqual(conflict(system), ("f", "g", 2, 2, ("b", "f", "b", "g"), (26, 66)))
        self.assertEqual(values(system, ("b", "f", "b", "g")), (26, 66))
        self.assertEqual(middles(system, "f", "g"), (2,))
        self.assertEqual((max_count(system, "f"), max_rest(system, "f")), (1, 5))
        self.assertEqual((max_count(system, "g"), max_rest(system, "g")), (21, None))
        self.assertIsNone(conflict(System([("d", 4), ("b", 2)], [("g", 3, 21, False, 0), ("f", 10, 9, False, 6)])))
        self.assertIsNone(conflict(System([("d", 4), ("b", 2)], [("g", 3, 22, False, 0), ("f", 10, 1, False, 6)])))
        self.assertIsNone(conflict(System([("d", 4), ("b", 2)], [("g", 3, 22, False, 0), ("f", 10, 9, False, 5)])))

    def test_one_said_and_one_unsaid(self):
        # f b g: X is 0, M is 2; a f g: X is 1, M is 0.
        system = System(DIGITS, [("f", 10, 9, True, 9), ("g", 3, None, False, 0)])
        self.assertEqual(conflict(system), ("f", "g", 0, 1, ("f", "a", "g"), (13, 33)))
        self.assertEqual(middles(system, "f", "g"), (1, 2, 3))
        system = System(DIGITS, [("f", 10, 9, False, 9), ("g", 3, None, True, 0)])
        self.assertEqual(conflict(system), ("f", "g", 1, 0, ("a", "f", "g"), (13, 30)))
        self.assertEqual(middles(system, "f", "g"), (0, 2, 3))

    def test_no_number(self):
        system = System([], [("f", 10, 9, False, 9), ("g", 3, None, False, 2)])
        self.assertIsNone(conflict(system))
        for first, second in itertools.product("fg", repeat=2):
            self.assertEqual(middles(system, first, second), ())
        self.assertEqual([max_count(system, word) for word in "fg"], [None, None])
        self.assertEqual([max_rest(system, word) for word in "fg"], [9, 2])

    def test_order(self):
        rows = [("h", 1000, 5, True, 999), ("g", 30, 50, True, 29), ("f", 5, None, True, 4)]
        self.assertEqual(conflict(System(DIGITS, rows))[:4], ("h", "f", 0, 0))
        self.assertEqual(conflict(System(DIGITS, rows[::-1]))[:4], ("g", "f", 0, 0))
        rows[1] = ("g", 30, 1000, True, 29)
        self.assertEqual(conflict(System(DIGITS, rows))[:4], ("h", "g", 0, 0))
        self.assertEqual(conflict(System(DIGITS, rows[1:] + rows[:1]))[:4], ("g", "f", 0, 0))

    def test_order_of_the_numbers(self):
        for system in (EXAMPLE, System([("a", 1)], [("f", 2, None, True, 1), ("g", 7, 9, True, 6)])):
            told = conflict(system)
            first, second = system.multiplier(told[0]), system.multiplier(told[1])
            head = max(told[2], 1) * first[1]
            self.assertEqual(told[5], (head + max(told[3], 1) * second[1], (head + told[3]) * second[1]))

    def test_a_multiplier_with_itself(self):
        # M times Q is at most the rest of P, which is less than P, so this never happens.
        chance = random.Random(2)
        for _ in range(50):
            system = small_system(chance)
            for row in system.multipliers:
                self.assertEqual(middles(system, row[0], row[0]), ())

    def test_first_phrases_of_the_numbers(self):
        system = System([("b", 3), ("a", 3)], [("f", 10, 9, False, 9), ("g", 3, None, False, 0)])
        self.assertEqual(conflict(system), ("f", "g", 3, 3, ("b", "f", "b", "g"), (39, 99)))
        # The least number is that of a multiplier.
        system = System([("a", 9)], [("e", 2, 1, True, 1), ("f", 10, 9, False, 9), ("g", 3, None, False, 0)])
        told = conflict(system)
        self.assertEqual(told, ("f", "g", 2, 2, ("e", "f", "e", "g"), (26, 66)))
        self.assertEqual(told[4], phrase_at(system, 2, 0) + ("f",) + phrase_at(system, 2, 0) + ("g",))

    def test_many_middles(self):
        # In twos every number is said.
        system = System([("a", 1)], [("f", 30000, 2, True, 29999), ("g", 2, None, False, 1)])
        self.assertEqual(middles(system, "f", "g"), tuple(range(1, 15000)))
        system = System([("a", 1)], [("f", 30000, 2, True, 29999), ("g", 2, None, True, 1)])
        self.assertEqual(middles(system, "f", "g"), (0,) + tuple(range(2, 15000)))
        system = System([("a", 1)], [("f", 30000, 2, True, 29999), ("g", 10, None, False, 9)])
        self.assertEqual(middles(system, "f", "g"), (1, 10, 11, 100, 101, 110, 111) + tuple([
            1000 + m for m in (0, 1, 10, 11, 100, 101, 110, 111)
        ]))
        system = System([("a", 1)], [("f", 30, 3, True, 29), ("g", 2, 34, False, 1)])
        self.assertEqual(middles(system, "f", "g"), (1, 2, 3, 4))


class Compared(unittest.TestCase):
    """Each system with the definitions, looked through."""

    def test_conflicts(self):
        chance = random.Random(5)
        for _ in range(400):
            system = small_system(chance)
            told = (system.simple, system.multipliers)
            every = conflicts(system.simple, system.multipliers, 12)
            found = conflict(system)
            self.assertEqual(None if found is None else found[:4], every[0] if every else None, told)
            if found is not None:
                self.check_phrase(system, found)
            words = [row[0] for row in system.multipliers]
            for first, second in itertools.product(words, repeat=2):
                some = tuple([m for p, q, _, m in every if (p, q) == (first, second)])
                self.assertEqual(middles(system, first, second), some, told)

    def check_phrase(self, system, found):
        first, second, x, m, phrase, numbers = found
        ahead = phrase_at(system, x, 0) if x else ()
        between = phrase_at(system, m, 0) if m else ()
        self.assertEqual(phrase, ahead + (first,) + between + (second,))
        self.assertNotEqual(numbers[0], numbers[1])
        for number in numbers:
            self.assertIn(number, values(system, phrase))
        self.assertTrue(is_ambiguous(system, phrase))

    def test_conflicts_and_phrases(self):
        chance = random.Random(9)
        seen = 0
        for _ in range(60):
            system = small_system(chance)
            if len(system.words()) > 5:
                continue
            found = conflict(system)
            ambiguous = False
            for length in range(5):
                for phrase in itertools.product(system.words(), repeat=length):
                    numbers = set([value for value, _ in parses(system, phrase)]) if phrase else ()
                    self.assertIs(is_ambiguous(system, phrase), len(numbers) > 1, phrase)
                    ambiguous = ambiguous or len(numbers) > 1
            if found is None:
                self.assertFalse(ambiguous)
                seen += 1
            elif len(found[4]) < 5:
                self.assertTrue(ambiguous)
        self.assertGreater(seen, 10)

    def test_least_conflicts(self):
        """[D5]: if there is a conflict, there is one with the least X and M."""
        chance = random.Random(10)
        for _ in range(300):
            system = small_system(chance)
            every = conflicts(system.simple, system.multipliers, 12)
            found = [value for _, value in system.simple] + [row[1] for row in system.multipliers if row[3]]
            least = min(found) if found else 0
            few = [told for told in every if told[2] in (0, least) and told[3] in (0, least)]
            self.assertEqual(bool(few), bool(every))
            self.assertEqual(conflict(system) is None, not every)

    def test_counts_and_rests(self):
        chance = random.Random(6)
        for _ in range(300):
            system = small_system(chance)
            for row in system.multipliers:
                self.check_count(system, row)
                self.check_rest(system, row)

    def clashes(self, system, row):
        rows = [row if other[0] == row[0] else other for other in system.multipliers]
        return conflicts(system.simple, rows, 12) != []

    def check_count(self, system, row):
        word, value, _, unsaid, rest = row
        told = max_count(system, word)
        if told is None:
            self.assertFalse(self.clashes(system, (word, value, 10 ** 6, unsaid, rest)))
            return
        self.assertTrue(self.clashes(system, (word, value, told + 1, unsaid, rest)))
        for count in range(1, told + 1):
            self.assertFalse(self.clashes(system, (word, value, count, unsaid, rest)))

    def check_rest(self, system, row):
        word, value, count, unsaid, _ = row
        fits = [not self.clashes(system, (word, value, count, unsaid, rest)) for rest in range(value)]
        best = max([rest for rest in range(value) if fits[rest]], default=None)
        self.assertEqual(max_rest(system, word), best)


class Bounds(unittest.TestCase):
    def test_own_count_does_not_matter(self):
        for count in (1, 5, 24, 25, 30, 3000, None):
            rest = ("t", 25, None if count else 7, True, 24)
            system = System(DIGITS, [("f", 5, count, True, 4), rest])
            self.assertEqual(max_count(system, "f"), 24)
        for count in (1, 7, 3999, None):
            system = System(DIGITS, [("f", 5, 4, True, 4), ("t", 25, count, True, 24)])
            self.assertEqual((max_count(system, "t"), max_rest(system, "t")), (None, 24))

    def test_above_what_a_system_has(self):
        system = System([("a", 1)], [("f", 50000, 1, True, 49999), ("g", 30000, 2, True, 7)])
        self.assertEqual(max_count(system, "g"), 49999)
        self.assertIsNone(max_count(system, "f"))
        system = System([("a", 1)], [("f", 50000, 2, True, 0), ("g", 30000, None, True, 7)])
        self.assertEqual(max_rest(system, "f"), 29999)
        self.assertEqual(max_rest(system, "g"), 29999)
        system = System([("a", 1)], [("f", 50000, 2, True, 0), ("g", 30000, 3, True, 7)])
        self.assertEqual(max_rest(system, "f"), 49999)

    def test_said_one(self):
        system = System([("c", 3)], [("f", 10, 1, False, 9), ("g", 3, None, False, 2)])
        self.assertIsNone(conflict(system))
        self.assertEqual(max_count(system, "f"), 2)
        self.assertEqual(max_count(System(DIGITS, system.multipliers), "f"), 0)

    def test_smaller_ones_are_unambiguous(self):
        for count in range(1, 25):
            self.assertIsNone(conflict(System(DIGITS, [("f", 5, count, True, 4), ("t", 25, None, True, 24)])))
        for count in range(25, 30):
            self.assertIsNotNone(conflict(System(DIGITS, [("f", 5, count, True, 4), ("t", 25, None, True, 24)])))
        for rest in range(25):
            system = System(DIGITS, [("f", 5, 30, True, 4), ("t", 25, None, True, rest)])
            self.assertEqual(conflict(system) is None, rest <= 4)


class LongPhrases(unittest.TestCase):
    def test_unambiguous(self):
        for phrase in ((), [], ("a",), ("t",), ["b", "f"], ("a", "a"), ("t",) * 900, ["c", "t"] * 900, ("f", "t") * 700):
            self.assertIs(is_ambiguous(CLEAR, phrase), False)
        self.assertIs(is_ambiguous(EXAMPLE, ("b", "f", "t") + ("t", "a") * 400), False)
        self.assertIs(is_ambiguous(EMPTY, ()), False)

    def test_ambiguous(self):
        for phrase in (("t", "f"), ["t", "f"], ("t", "f") + ("t", "a") * 800, ("t",) * 600 + ("f", "t", "a")):
            self.assertIs(is_ambiguous(EXAMPLE, phrase), phrase[:2] == ("t", "f") or phrase == ["t", "f"])

    def test_ambiguous_late(self):
        # In the count of the endless word, and in its rest, far behind.
        system = System(DIGITS, [("f", 5, 30, True, 4), ("h", 25, 3, True, 24), ("t", 1000, None, True, 999)])
        head = ("b", "h", "f", "t") + ("c", "h", "a", "t") * 300
        self.assertIs(is_ambiguous(system, head), False)
        self.assertIs(is_ambiguous(system, head + ("h", "b", "f")), True)
        self.assertIs(is_ambiguous(system, head + ("h", "b", "f", "a", "t") + ("d", "t") * 300), True)
        self.assertIs(is_ambiguous(system, head + ("h", "b", "f", "a", "b", "t") + ("d", "t") * 300), False)

    def test_two_ways_to_one_number(self):
        # Of the two numbers of the beginning one alone goes on.
        system = System(DIGITS, [("f", 5, 30, True, 4), ("t", 25, None, True, 24)])
        self.assertIs(is_ambiguous(system, ("t", "f")), True)
        self.assertEqual(values(system, ("t", "f", "f")), (150,))
        self.assertIs(is_ambiguous(system, ("t", "f", "f")), False)
        self.assertIs(is_ambiguous(system, ("t", "f", "f") + ("t",) * 500), False)
        self.assertIs(is_ambiguous(system, ("t", "f", "f", "f")), False)

    def test_as_values_tells(self):
        chance = random.Random(4)
        system = System([], [("u", 600, None, True, 599), ("v", 40, 300, True, 39), ("w", 7, 90, True, 6), ("x", 2, 900, True, 1)])
        for _ in range(300):
            phrase = tuple([chance.choice("uvwx") for _ in range(chance.randint(1, 6))])
            self.assertIs(is_ambiguous(system, phrase), len(values(system, phrase)) > 1)

    def test_very_long(self):
        system = System([("a", 1)], [("w", 2, None, True, 1)])
        self.assertIs(is_ambiguous(system, ["w"] * 20000), False)
        self.assertIs(is_ambiguous(system, ("w", "a") * 5000), False)
        self.assertIs(is_ambiguous(system, ("w", "a", "a") * 3000), False)
        wood = System([], [("u", 900, None, True, 899), ("v", 43, 2000, True, 42), ("w", 7, 9000, True, 6), ("x", 2, 9000, True, 1)])
        self.assertIs(is_ambiguous(wood, ("u", "v", "w", "x") * 400), True)


class WrongInputs(unittest.TestCase):
    def test_not_multiplier(self):
        self.assertTrue(issubclass(NotMultiplier, SayError))
        for word in ("a", "q", "", "F"):
            for call in (
                lambda: middles(EXAMPLE, word, "f"), lambda: middles(EXAMPLE, "t", word),
                lambda: middles(EXAMPLE, word, word), lambda: max_count(EXAMPLE, word), lambda: max_rest(EXAMPLE, word),
            ):
                with self.assertRaises(NotMultiplier):
                    call()
        with self.assertRaises(NotMultiplier):
            middles(EMPTY, "f", "f")

    def test_unknown_words(self):
        for phrase, number in (
            (("q",), 0), (["t", "f", "g"], 2), (("a", "a", "a", "a", "Q", "q"), 4), (("t",) * 1500 + ("z",), 1500),
        ):
            with self.assertRaises(UnknownWord) as caught:
                is_ambiguous(EXAMPLE, phrase)
            self.assertEqual(caught.exception.number, number)

    def test_arguments_stay(self):
        phrase = ["t", "f"]
        is_ambiguous(EXAMPLE, phrase)
        self.assertEqual(phrase, ["t", "f"])
        max_count(EXAMPLE, "f")
        max_rest(EXAMPLE, "t")
        self.assertEqual(EXAMPLE.multipliers, (("f", 5, 30, True, 4), ("t", 25, None, True, 24)))


if __name__ == "__main__":
    unittest.main()

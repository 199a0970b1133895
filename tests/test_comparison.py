"""False friends, meanings and translations between two systems: [G3], [G4]."""

import itertools
import random
import unittest

from sayonce.comparison import conflict_counts, false_friend, interpret, translate
from sayonce.conflicts import Mismatch, conflicts
from sayonce.derivations import UnknownWord, phrase_at
from sayonce.phrases import TooManyAnswers, values
from sayonce.systems import System
from tests.reference import Two, first_phrase, parses, small_pair, small_system

DIGITS = [("a", 1), ("b", 2), ("c", 3), ("d", 4)]
FIRST = System(DIGITS, [("f", 5, 4, True, 4), ("t", 25, None, True, 24)])
SECOND = System(DIGITS, [("f", 5, 30, True, 4), ("t", 25, 3, True, 24)])
# Multipliers alone, in which phrases mean many numbers.
WOOD = System([], [
    ("y", 439, 226, True, 438), ("u", 2, 49999, True, 1), ("x", 50, 1999, True, 49), ("v", 3, 33332, True, 2),
    ("z", 100000, None, True, 99999), ("w", 9, 11110, True, 8),
])
MANY = tuple("wvuxwuvuzywuv")
EMPTY = System([], [])


def meanings(system, phrase):
    """[C1], by the definition."""
    return tuple(sorted({value for value, _ in parses(system, phrase)}))


class FalseFriends(unittest.TestCase):
    def test_document(self):
        self.assertEqual(false_friend(FIRST, SECOND), ("forward", ("t", "f", 0, 0), ("t", "f"), (30, 125)))
        self.assertEqual(conflict_counts(FIRST, SECOND), (4, 0))

    def test_backward(self):
        self.assertEqual(false_friend(SECOND, FIRST), ("backward", ("t", "f", 0, 0), ("t", "f"), (125, 30)))
        self.assertEqual(conflict_counts(SECOND, FIRST), (0, 4))
        self.assertEqual((values(SECOND, ("t", "f")), values(FIRST, ("t", "f"))), ((30, 125), (30,)))

    def test_both_directions(self):
        # The forward one is told, also if there are conflicts backward.
        first = System(DIGITS, [("f", 5, 200, True, 4), ("t", 25, None, True, 24)])
        self.assertEqual(false_friend(first, SECOND)[:2], ("forward", ("t", "f", 0, 0)))
        self.assertEqual(false_friend(SECOND, first)[:2], ("forward", ("t", "f", 0, 0)))
        self.assertEqual(conflict_counts(first, SECOND), (4, 4))
        third = System(DIGITS, [("f", 5, 200, True, 4), ("t", 25, 3, True, 5)])
        self.assertEqual(conflict_counts(first, third), (4, 1))
        self.assertEqual(conflict_counts(third, first), (1, 4))
        self.assertEqual(false_friend(third, first), ("forward", ("t", "f", 0, 0), ("t", "f"), (30, 125)))

    def test_said_numbers_in_the_phrase(self):
        # The phrases of X and of M have the words of the first system in its order.
        few = [("b", 2), ("two", 2), ("a", 1), ("c", 3)]
        first = System(few, [("f", 10, 9, True, 9), ("g", 3, None, False, 0)])
        second = System(few[::-1], [("g", 3, None, False, 0), ("f", 10, 9, False, 9)])
        self.assertEqual(false_friend(first, second)[1:3], (("f", "g", 2, 1), ("b", "f", "a", "g")))
        self.assertEqual(false_friend(second, first)[1:3], (("f", "g", 2, 1), ("two", "f", "a", "g")))
        self.assertEqual(false_friend(first, second)[3], (23, 63))
        # The first one of the first system is not common here.
        second = System(few[1:], second.multipliers)
        self.assertEqual(false_friend(first, second)[2], ("two", "f", "a", "g"))
        # Here the first derivation of 2 in the first system has a word that is a count too few in the other one.
        rows = [("f", 10, 9, True, 9), ("g", 3, None, False, 0)]
        first = System([("a", 1), ("c", 3)], [("e", 2, 1, False, 0), ("h", 2, 1, True, 0)] + rows)
        second = System([("a", 1), ("c", 3)], [("e", 2, 1, True, 0), ("h", 2, 1, True, 0), ("f", 10, 9, False, 9), rows[1]])
        self.assertEqual(phrase_at(first, 2, 0), ("a", "e"))
        self.assertEqual(false_friend(first, second)[2], ("h", "f", "a", "g"))

    def test_none(self):
        for first, second in ((FIRST, FIRST), (EMPTY, EMPTY), (FIRST, EMPTY), (EMPTY, SECOND), (System(DIGITS, []), FIRST)):
            self.assertIsNone(false_friend(first, second))
            self.assertEqual(conflict_counts(first, second), (0, 0))

    def test_as_defined(self):
        chance = random.Random(31)
        seen = {"forward": 0, "backward": 0}
        for _ in range(1500):
            first, second = small_pair(chance)
            forward = list(Two(first, second, 20).conflicts())
            backward = list(Two(second, first, 20).conflicts())
            self.assertEqual(conflict_counts(first, second), (len(forward), len(backward)))
            found = false_friend(first, second)
            if forward:
                self.assertEqual(found, ("forward",) + forward[0])
            elif backward:
                told, phrase, numbers = backward[0]
                self.assertEqual(found, ("backward", told, phrase, numbers[::-1]))
            else:
                self.assertIsNone(found)
            if found is not None:
                seen[found[0]] += 1
                self.check_phrase(first, second, found)
        self.assertGreater(min(seen.values()), 30)

    def check_phrase(self, first, second, found):
        in_first, in_second = found[3]
        self.assertNotEqual(in_first, in_second)
        self.assertIn(in_first, meanings(first, found[2]))
        self.assertIn(in_second, meanings(second, found[2]))

    def test_mismatch(self):
        other = System([("x", 7), ("c", 9)], [("b", 5, 4, True, 4)])
        for call in (false_friend, conflict_counts):
            for first, second, word in ((FIRST, other, "b"), (other, FIRST, "c")):
                with self.assertRaises(Mismatch) as caught:
                    call(first, second)
                self.assertEqual(caught.exception.word, word)


class Interpretations(unittest.TestCase):
    def test_ordinary(self):
        self.assertEqual(interpret(FIRST, SECOND, ("t", "f")), (30, 125))
        self.assertEqual(interpret(SECOND, FIRST, ["t", "f"]), (30,))
        narrow = System(DIGITS, [("f", 5, 30, True, 4), ("t", 25, 3, True, 4)])
        self.assertEqual(interpret(FIRST, narrow, ("t", "f")), (125,))
        both = System(DIGITS, [("f", 5, 30, True, 4), ("t", 25, None, True, 24)])
        self.assertEqual(interpret(FIRST, both, ("t", "f", "a")), (31, 126))
        self.assertEqual(interpret(FIRST, FIRST, ("b", "f", "c")), (13,))

    def test_means_nothing_there(self):
        self.assertEqual(interpret(FIRST, SECOND, ("d", "t")), ())
        self.assertEqual(interpret(FIRST, SECOND, ()), ())
        self.assertEqual(interpret(FIRST, SECOND, []), ())
        self.assertEqual(interpret(EMPTY, SECOND, ()), ())

    def test_phrase_that_means_nothing_in_the_first_system(self):
        # It need not mean anything in the first system: its words are enough.
        first = System([("a", 1), ("f", 9)], [])
        self.assertEqual(interpret(first, FIRST, ("f", "a")), (6,))

    def test_words_that_the_second_system_does_not_have(self):
        first = System(DIGITS + [("e", 9)], FIRST.multipliers)
        for phrase in (("e",), ("t", "e"), ("e", "t"), ("b", "f", "e", "f", "a"), ("t", "f", "e")):
            self.assertEqual(interpret(first, SECOND, phrase), ())
        self.assertEqual(interpret(FIRST, EMPTY, ("a",)), ())

    def test_words_that_are_defined_differently(self):
        other = System([("f", 3), ("t", 8)], [("a", 10, None, True, 9)])
        self.assertEqual(interpret(FIRST, other, ("a", "f")), (13,))
        self.assertEqual(interpret(FIRST, other, ("t", "a", "f")), (83,))
        self.assertEqual(interpret(other, FIRST, ("f", "a")), (6,))

    def test_many(self):
        first = System([(word, 1) for word in "uvwxyz"], [])
        with self.assertRaises(TooManyAnswers):
            values(WOOD, MANY)
        found = interpret(first, WOOD, MANY)
        self.assertEqual(found, meanings(WOOD, MANY))
        self.assertGreater(len(found), 100)
        phrase = tuple("wvuxwuvuzywuvuuuzywvuvuu")
        self.assertEqual(len(phrase), 24)
        found = interpret(first, WOOD, phrase)
        self.assertGreater(len(found), 100000)
        self.assertEqual(list(found), sorted(set(found)))

    def test_as_defined(self):
        chance = random.Random(32)
        seen = 0
        for _ in range(60):
            first, second = small_pair(chance) if chance.random() < 0.5 else (small_system(chance), small_system(chance))
            for length in range(1, 4):
                for phrase in itertools.product(first.words(), repeat=length):
                    expected = meanings(second, phrase)
                    self.assertEqual(interpret(first, second, phrase), expected)
                    seen += 1 if expected else 0
        self.assertGreater(seen, 500)

    def test_unknown_words(self):
        first = System([("a", 1), ("e", 2)], [])
        for phrase, number in ((("q",), 0), (["a", "f", "q"], 1), (("e", "a", "", "f"), 2), (("a",) * 23 + ("Q",), 23)):
            for call in (interpret, translate):
                with self.assertRaises(UnknownWord) as caught:
                    call(first, FIRST, phrase)
                self.assertEqual(caught.exception.number, number)

    def test_arguments_stay(self):
        phrase = ["t", "f"]
        interpret(FIRST, SECOND, phrase)
        translate(FIRST, SECOND, phrase)
        self.assertEqual(phrase, ["t", "f"])


class Translations(unittest.TestCase):
    def test_ordinary(self):
        self.assertEqual(translate(FIRST, SECOND, ("b", "f", "c")), ((13, ("b", "f", "c")),))
        other = System([("i", 1), ("ii", 2), ("x", 10)], [("c", 100, None, True, 99), ("y", 10, 9, False, 9)])
        self.assertEqual(translate(FIRST, other, ["b", "f"]), ((10, ("x",)),))
        self.assertEqual(translate(FIRST, other, ("b", "f", "b")), ((12, ("i", "y", "ii")),))
        self.assertEqual(translate(FIRST, other, ("d", "t")), ((100, ("c",)),))

    def test_nothing_said(self):
        other = System([("i", 1)], [])
        self.assertEqual(translate(FIRST, other, ("b", "f")), ((10, None),))
        self.assertEqual(translate(FIRST, EMPTY, ("a",)), ((1, None),))

    def test_no_number(self):
        self.assertEqual(translate(FIRST, SECOND, ()), ())
        self.assertEqual(translate(FIRST, SECOND, ("a", "f")), ())
        self.assertEqual(translate(FIRST, SECOND, ["a", "a"]), ())

    def test_two_numbers(self):
        both = System(DIGITS, [("f", 5, 30, True, 4), ("t", 25, None, True, 24)])
        self.assertEqual(translate(both, FIRST, ("t", "f", "a")), ((31, ("t", "f", "a")), (126, ("f", "t", "a"))))
        self.assertEqual(translate(both, SECOND, ("t", "f")), ((30, ("f", "a", "f")), (125, ("f", "f", "f"))))
        odd = System([("i", 1)], [("w", 2, None, True, 0), ("y", 63, 1, True, 62), ("x", 3, 5, False, 0)])
        self.assertEqual(translate(both, odd, ("t", "f", "a")), ((31, None), (126, ("y", "w"))))

    def test_words_that_are_defined_differently(self):
        other = System([("f", 3), ("t", 8)], [("a", 10, None, True, 9)])
        self.assertEqual(translate(FIRST, other, ("b", "f", "c")), ((13, ("a", "f")),))

    def test_great_numbers(self):
        found = translate(FIRST, System([("i", 1)], [("ten", 10, None, True, 9)]), ("t",) * 24)
        self.assertEqual(found, ((25 ** 24, None),))
        digits = System([("i", 1)], [("two", 2, None, True, 1)])
        found = translate(FIRST, digits, ("t",) * 24)
        self.assertEqual(found, ((25 ** 24, phrase_at(digits, 25 ** 24, 0)),))
        self.assertEqual(translate(digits, FIRST, ("two",) * 24)[0][0], 2 ** 24)

    def test_many(self):
        found = translate(WOOD, System(DIGITS, []), MANY)
        self.assertEqual(found, tuple([(number, None) for number in meanings(WOOD, MANY)]))
        binary = System([("a", 1)], [("w", 2, None, True, 1)])
        for number, said in translate(WOOD, binary, MANY):
            self.assertEqual(interpret(binary, binary, said), (number,))
            self.assertEqual(said, phrase_at(binary, number, 0))

    def test_as_defined(self):
        chance = random.Random(33)
        for _ in range(60):
            first, second = small_pair(chance) if chance.random() < 0.5 else (small_system(chance), small_system(chance))
            known = {}
            for length in range(1, 4):
                for phrase in itertools.product(first.words(), repeat=length):
                    expected = tuple([(n, first_phrase(second, n, known)) for n in meanings(first, phrase)])
                    self.assertEqual(translate(first, second, phrase), expected)


class KindsOfValues(unittest.TestCase):
    def test_tuples(self):
        found = false_friend(FIRST, SECOND)
        for part in (found,) + found[1:] + (conflict_counts(FIRST, SECOND), conflicts(FIRST, SECOND)):
            self.assertIsInstance(part, tuple)
        self.assertIsInstance(interpret(FIRST, SECOND, ["a"]), tuple)
        found = translate(FIRST, SECOND, ["a"])
        for part in (found, found[0], found[0][1]):
            self.assertIsInstance(part, tuple)


if __name__ == "__main__":
    unittest.main()

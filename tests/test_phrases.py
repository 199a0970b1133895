"""What phrases mean, and where they go wrong: [C1] to [C3]."""

import random
import unittest

from sayonce.derivations import UnknownWord, index_of
from sayonce.errors import SayError
from sayonce.phrases import TooManyAnswers, error_index, next_words, trees, values
from sayonce.systems import System
from tests.reference import parses, small_system

DIGITS = [("a", 1), ("b", 2), ("c", 3), ("d", 4)]
EXAMPLE = System(DIGITS, [("f", 5, 30, True, 4), ("t", 25, None, True, 24)])
EMPTY = System([], [])

# A phrase of a hundred numbers, each with one tree, and one of a hundred and one.
HUNDRED = System([], [("u", 997, None, True, 996), ("v", 8, 12499, True, 7), ("w", 2, 49999, True, 1)])
HUNDRED_WORDS = tuple("uvwuuvwvwwwuvvwuwuwvw")
MORE = System([], [("u", 2992, 32, True, 2991), ("v", 6, None, True, 5), ("w", 3, 33332, True, 2), ("x", 2, 49999, True, 1)])
MORE_WORDS = tuple("uwxvwxxvwx")

# A phrase of 56 numbers and 120 trees.
WOOD = System([], [
    ("u", 4, 24999, True, 3), ("v", 10, 9999, True, 9), ("w", 15, 94, True, 14), ("x", 2, 49999, True, 1),
    ("y", 28, None, True, 27), ("z", 3, 141, True, 2),
])
WOOD_WORDS = tuple("uvzyxuyuzxywuzyuzxyvyvyz")

# Between two of the endless word each row of four words can be taken in 14 ways.
LARGE = System([], [
    ("t", 100000, None, True, 99999), ("u", 43, 2324, True, 42), ("v", 7, 14284, True, 6), ("w", 3, 33332, True, 2),
    ("x", 2, 49999, True, 1),
])


def numbers_of(pairs):
    return tuple(sorted(set(value for value, _ in pairs)))


class Examples(unittest.TestCase):
    def test_document(self):
        self.assertEqual(values(EXAMPLE, ("t", "f", "a")), (31, 126))
        self.assertEqual(trees(EXAMPLE, ("t", "f")), ((None, "t", (None, "f", None)), ((None, "t", None), "f", None)))
        self.assertEqual(error_index(EXAMPLE, ("a", "f")), 1)
        self.assertEqual(next_words(EXAMPLE, ("t", "f")), ("a", "b", "c", "d", "f", "t"))

    def test_lists(self):
        self.assertEqual(values(EXAMPLE, ["t", "f", "a"]), (31, 126))
        self.assertEqual(trees(EXAMPLE, ["b", "f", "a"]), (("b", "f", "a"),))
        self.assertEqual(error_index(EXAMPLE, ["a", "f"]), 1)
        self.assertEqual(next_words(EXAMPLE, ["c", "f"]), ("a", "b", "c", "d", "f", "t"))

    def test_empty_phrase(self):
        for phrase in ((), []):
            self.assertEqual(values(EXAMPLE, phrase), ())
            self.assertEqual(trees(EXAMPLE, phrase), ())
            self.assertEqual(error_index(EXAMPLE, phrase), 0)
            self.assertEqual(next_words(EXAMPLE, phrase), ("a", "b", "c", "d", "f", "t"))
            self.assertEqual(next_words(EMPTY, phrase), ())
        said = System([("z", 4)], [("g", 6, 4, False, 3), ("f", 5, 4, True, 4)])
        self.assertEqual(next_words(said, ()), ("z", "f"))

    def test_single_words(self):
        self.assertEqual(values(EXAMPLE, ("c",)), (3,))
        self.assertEqual(trees(EXAMPLE, ("c",)), ("c",))
        self.assertEqual(values(EXAMPLE, ("f",)), (5,))
        self.assertEqual(trees(EXAMPLE, ("f",)), ((None, "f", None),))
        self.assertIsNone(error_index(EXAMPLE, ("c",)))
        said = System(DIGITS, [("f", 5, 4, False, 4)])
        self.assertEqual((values(said, ("f",)), trees(said, ("f",)), error_index(said, ("f",))), ((), (), 0))
        self.assertEqual(next_words(said, ("f",)), ())

    def test_said_and_unsaid_one(self):
        said = System(DIGITS, [("f", 5, 4, False, 4)])
        self.assertEqual(values(said, ("a", "f", "c")), (8,))
        self.assertEqual(trees(said, ("a", "f", "c")), (("a", "f", "c"),))
        unsaid = System(DIGITS, [("f", 5, 4, True, 4)])
        self.assertEqual(values(unsaid, ("a", "f", "c")), ())
        self.assertEqual(error_index(unsaid, ("a", "f", "c")), 1)
        self.assertEqual(next_words(unsaid, ("a",)), ())
        self.assertEqual(next_words(said, ("a",)), ("f",))
        self.assertEqual(next_words(unsaid, ("b",)), ("f",))

    def test_same_values(self):
        system = System([("a", 2), ("b", 2)], [("f", 5, 3, False, 4), ("g", 5, 2, True, 2)])
        self.assertEqual(values(system, ("a", "f", "b")), (12,))
        self.assertEqual(values(system, ("b", "g", "b")), (12,))
        self.assertEqual(next_words(system, ()), ("a", "b", "g"))
        self.assertEqual(next_words(system, ("b", "f")), ("a", "b"))
        self.assertEqual(next_words(system, ("b", "g", "b")), ())
        self.assertEqual(error_index(system, ("a", "f", "b", "f")), 3)

    def test_bounds_of_counts_and_rests(self):
        system = System(DIGITS, [("f", 5, 3, True, 2)])
        self.assertEqual(next_words(system, ("c", "f")), ("a", "b"))
        self.assertEqual(error_index(system, ("d", "f")), 1)
        self.assertEqual(error_index(system, ("c", "f", "c")), 2)
        self.assertEqual(error_index(system, ("c", "f", "b", "a")), 3)
        self.assertEqual(error_index(system, ("c", "f", "f", "a")), 2)

    def test_endless(self):
        system = System([], [("w", 2, None, True, 1)])
        self.assertEqual(values(system, ("w",) * 24), (2 ** 24,))
        self.assertEqual(next_words(system, ("w",) * 24), ("w",))
        tree = None
        for _ in range(24):
            tree = (tree, "w", None)
        self.assertEqual(trees(system, ("w",) * 24), (tree,))

    def test_somewhat_longer(self):
        system = System([("a", 1)], [("w", 2, None, True, 1)])
        self.assertEqual(values(system, ("w",) * 40 + ("a",)), (2 ** 40 + 1,))
        self.assertEqual(error_index(system, ("w",) * 40 + ("a", "a", "a")), 41)
        self.assertEqual(next_words(system, ("w",) * 40), ("a", "w"))

    def test_long_rests(self):
        # No rest up to 4095 has more words than the greatest one in ones and twos.
        system = System([("a", 1)], [("w", 2, 2047, False, 1), ("t", 4096, None, True, 4095)])
        rest = ("a",) + ("w", "a") * 11
        self.assertEqual(values(system, rest), (4095,))
        self.assertEqual(values(system, ("t",) + rest), (8191,))
        self.assertEqual(len(trees(system, ("t",) + rest)), 1)
        self.assertEqual(next_words(system, ("t",) + rest), ("t",))
        self.assertEqual(next_words(system, ("t",) + rest[:-1]), ("a", "t"))
        self.assertEqual(error_index(system, ("t",) + rest + ("w",)), 24)
        self.assertEqual(values(system, rest + ("t",) + rest), (4095 * 4097,))

    def test_order_of_trees(self):
        system = System([], [("u", 60, None, True, 59), ("v", 6, 999, True, 5), ("w", 2, 999, True, 1)])
        w = (None, "w", None)
        self.assertEqual(trees(system, ("u", "v", "w")), (
            (None, "u", (None, "v", w)),
            (None, "u", ((None, "v", None), "w", None)),
            ((None, "u", None), "v", w),
            ((None, "u", (None, "v", None)), "w", None),
            (((None, "u", None), "v", None), "w", None),
        ))
        self.assertEqual(values(system, ("u", "v", "w")), (68, 72, 132, 362, 720))

    def test_more_trees_than_numbers(self):
        system = System([], [("v", 3, 18, True, 2), ("w", 4, 6, True, 3), ("y", 2, 49999, True, 1)])
        phrase = ("w", "v", "y", "v", "y", "y", "y")
        self.assertEqual(len(values(system, phrase)), 2)
        self.assertEqual(len(trees(system, phrase)), 4)
        self.assertEqual(trees(system, phrase), tuple([tree for _, tree in parses(system, phrase)]))


class Compared(unittest.TestCase):
    """Each system with the reference, for phrases of few words."""

    def test_some_systems(self):
        chance = random.Random(3)
        for _ in range(250):
            system = small_system(chance)
            if system.words():
                self.compare(system, some_phrase(chance, system))

    def compare(self, system, phrase):
        told = (system.simple, system.multipliers, phrase)
        wrong = None
        for at in range(len(phrase) + 1):
            begun = phrase[:at]
            pairs = parses(system, begun) if begun else []
            self.assertEqual(values(system, begun), numbers_of(pairs), told)
            self.assertEqual(trees(system, begun), tuple([tree for _, tree in pairs]), told)
            if begun and not pairs and wrong is None:
                wrong = at - 1
            self.assertEqual(error_index(system, begun), wrong if begun else 0, told)
            come = [word for word in system.words() if parses(system, begun + (word,))]
            self.assertEqual(next_words(system, begun), tuple(come), told)

    def test_numbers_have_the_phrase(self):
        chance = random.Random(8)
        for _ in range(100):
            system = small_system(chance)
            if system.words():
                phrase = some_phrase(chance, system)
                for number in values(system, phrase):
                    self.assertIsNotNone(index_of(system, number, phrase))

    def test_beginnings(self):
        for system, phrase in ((HUNDRED, HUNDRED_WORDS), (MORE, MORE_WORDS), (WOOD, WOOD_WORDS)):
            self.assertIsNone(error_index(system, phrase))
            for at in range(1, len(phrase)):
                self.assertIsNone(error_index(system, phrase[:at]))
                self.assertIn(phrase[at], next_words(system, phrase[:at]))


def some_phrase(chance, system):
    phrase = ()
    for _ in range(chance.randint(1, 6)):
        come = next_words(system, phrase)
        if chance.random() < 0.1 or not come:
            come = system.words()
        phrase += (chance.choice(come),)
    return phrase


class ManyAnswers(unittest.TestCase):
    def test_errors(self):
        self.assertTrue(issubclass(TooManyAnswers, SayError))

    def test_hundred(self):
        told = values(HUNDRED, HUNDRED_WORDS)
        self.assertEqual(len(told), 100)
        self.assertEqual(sorted(set(told)), list(told))
        found = trees(HUNDRED, HUNDRED_WORDS)
        self.assertEqual(len(found), 100)
        self.assertEqual(sorted([number_of(HUNDRED, tree) for tree in found]), list(told))
        for tree in found:
            self.assertEqual(words_of(tree), HUNDRED_WORDS)
        self.assertEqual(sorted(found, key=places_of), list(found))

    def test_one_more(self):
        self.assertEqual(len(numbers_of(parses(MORE, MORE_WORDS))), 101)
        for ask in (values, trees):
            with self.assertRaises(TooManyAnswers):
                ask(MORE, MORE_WORDS)
        self.assertIsNone(error_index(MORE, MORE_WORDS))
        self.assertNotEqual(next_words(MORE, MORE_WORDS), ())

    def test_many_trees_of_few_numbers(self):
        self.assertEqual(len(values(WOOD, WOOD_WORDS)), 56)
        with self.assertRaises(TooManyAnswers):
            trees(WOOD, WOOD_WORDS)

    def test_very_many(self):
        self.assertEqual(len(values(LARGE, tuple("uvwx"))), 14)
        self.assertEqual(len(values(LARGE, tuple("tuvwx"))), 14)
        for count in (2, 3, 4, 40):
            phrase = tuple("tuvwx" * count)
            for ask in (values, trees):
                with self.assertRaises(TooManyAnswers):
                    ask(LARGE, phrase)
            self.assertIsNone(error_index(LARGE, phrase))
            self.assertEqual(next_words(LARGE, phrase), ("t", "u", "v", "w", "x"))

    def test_many_ahead_of_few(self):
        # Most of what the words ahead of the last one mean is too large for its count.
        for most in (60, 100, 1000, 11000):
            system = System([], LARGE.multipliers[1:] + (("y", 5, most, True, 4),))
            for phrase in ("uvwxy", "vwxvwxy", "uvwuvwy"):
                pairs = parses(system, tuple(phrase))
                self.assertEqual(values(system, tuple(phrase)), numbers_of(pairs))
                self.assertEqual(trees(system, tuple(phrase)), tuple([tree for _, tree in pairs]))

    def test_many_ahead_of_none(self):
        system = System([("a", 1)], LARGE.multipliers[:3] + (("w", 3, 300, True, 0), ("x", 2, 300, True, 0)))
        phrase = tuple("tuvwxa")
        self.assertEqual(error_index(system, phrase), 5)
        for ask in (values, trees, next_words):
            self.assertEqual(ask(system, phrase), ())


def number_of(system, tree):
    if isinstance(tree, str):
        return system.simple_value(tree)
    ahead, word, behind = tree
    count = 1 if ahead is None else number_of(system, ahead)
    return count * system.multiplier(word)[1] + (0 if behind is None else number_of(system, behind))


def words_of(tree):
    if tree is None:
        return ()
    if isinstance(tree, str):
        return (tree,)
    return words_of(tree[0]) + (tree[1],) + words_of(tree[2])


def places_of(tree, start=0):
    """The places of the words, the outermost one first: in this order trees of one phrase are told."""
    if tree is None:
        return ()
    if isinstance(tree, str):
        return (start,)
    place = start + len(words_of(tree[0]))
    return (place,) + places_of(tree[0], start) + places_of(tree[2], place + 1)


class WrongInputs(unittest.TestCase):
    def test_unknown_words(self):
        for ask in (values, trees, error_index, next_words):
            for system, phrase, number in (
                (EXAMPLE, ("t", "q", "r"), 1), (EXAMPLE, ["q"], 0), (EXAMPLE, ("a", "a", "a", "A"), 3),
                (EXAMPLE, ("a", ""), 1), (EMPTY, ("a",), 0), (MORE, MORE_WORDS + ("a",), len(MORE_WORDS)),
                (LARGE, tuple("tuvwx" * 4) + ("q",), 20),
            ):
                with self.assertRaises(UnknownWord) as caught:
                    ask(system, phrase)
                self.assertEqual(caught.exception.number, number)

    def test_wrong_phrases(self):
        # 12 times f, and 60 behind it; the count of a third f is 61.
        self.assertEqual(values(EXAMPLE, ("b", "f", "b", "f", "a")), (61,))
        phrase = ("b", "f", "b", "f", "a", "f", "b", "t")
        self.assertEqual(values(EXAMPLE, phrase), ())
        self.assertEqual(trees(EXAMPLE, phrase), ())
        self.assertEqual(error_index(EXAMPLE, phrase), 5)
        self.assertEqual(next_words(EXAMPLE, phrase), ())
        self.assertEqual(next_words(EXAMPLE, phrase[:6]), ())
        self.assertEqual(next_words(EXAMPLE, phrase[:5]), ("t",))

    def test_arguments_stay(self):
        phrase = ["t", "f", "a"]
        for ask in (values, trees, error_index, next_words):
            ask(EXAMPLE, phrase)
            self.assertEqual(phrase, ["t", "f", "a"])


if __name__ == "__main__":
    unittest.main()

"""Two systems, what they have in common, and their conflicts: [G1] to [G3]."""

import random
import unittest

from sayonce.ambiguity import conflict
from sayonce.conflicts import Mismatch, common_system, conflicts, first_conflict, mismatch
from sayonce.errors import SayError
from sayonce.systems import System
from tests.reference import Two, derivation_trees, small_pair, small_system, tree_value

DIGITS = [("a", 1), ("b", 2), ("c", 3), ("d", 4)]
FIRST = System(DIGITS, [("f", 5, 4, True, 4), ("t", 25, None, True, 24)])
SECOND = System(DIGITS, [("f", 5, 30, True, 4), ("t", 25, 3, True, 24)])
EMPTY = System([], [])


def told(system):
    return system.simple, system.multipliers


class Mismatches(unittest.TestCase):
    def test_none(self):
        for first, second in ((FIRST, SECOND), (SECOND, FIRST), (EMPTY, FIRST), (FIRST, EMPTY), (EMPTY, EMPTY)):
            self.assertIsNone(mismatch(first, second))
        # Counts, rests and the unsaid one do not define a word differently.
        self.assertIsNone(mismatch(System([], [("f", 5, 4, True, 4)]), System([], [("f", 5, None, False, 0)])))
        # Words for one number do not either.
        self.assertIsNone(mismatch(System([("a", 1)], []), System([("b", 1)], [])))

    def test_kinds(self):
        self.assertEqual(mismatch(System([("a", 5)], []), System([], [("a", 5, 4, True, 4)])), "a")
        self.assertEqual(mismatch(System([], [("a", 5, 4, True, 4)]), System([("a", 5)], [])), "a")
        self.assertEqual(mismatch(System([("a", 1), ("b", 2)], []), System([("b", 3), ("a", 1)], [])), "b")
        self.assertEqual(mismatch(System([], [("g", 6, 1, True, 0)]), System([], [("g", 7, 1, True, 0)])), "g")

    def test_order_of_the_first_system(self):
        first = System([("a", 1), ("b", 2)], [("f", 5, 4, True, 4), ("g", 9, 4, True, 4)])
        second = System([("b", 3), ("a", 2), ("f", 5)], [("g", 8, 4, True, 4)])
        self.assertEqual(mismatch(first, second), "a")
        self.assertEqual(mismatch(second, first), "b")
        # In the second one's own order f, which is simple there, stands ahead of g.
        second = System([("f", 5)], [("g", 8, 4, True, 4)])
        self.assertEqual(mismatch(System([], [first.multipliers[1], first.multipliers[0]]), second), "g")
        self.assertEqual(mismatch(first, second), "f")
        # Simple words first, though g stands first in the second system, as a simple word.
        self.assertEqual(mismatch(System([("h", 1)], [("g", 5, 1, True, 0)]), System([("g", 5), ("h", 2)], [])), "h")

    def test_raised(self):
        self.assertTrue(issubclass(Mismatch, SayError))
        other = System([("x", 7), ("c", 9)], [("b", 5, 4, True, 4)])
        for call in (common_system, conflicts, first_conflict):
            for first, second, word in ((FIRST, other, "b"), (other, FIRST, "c")):
                with self.assertRaises(Mismatch) as caught:
                    call(first, second)
                self.assertEqual(caught.exception.word, word)
                self.assertEqual(mismatch(first, second), word)


class Common(unittest.TestCase):
    def test_document(self):
        simple, rows = common_system(FIRST, SECOND)
        self.assertEqual(simple, tuple(DIGITS))
        self.assertEqual(rows, (("f", 5, 1, 4, True, 4), ("t", 25, 1, 3, True, 24)))

    def test_order(self):
        first = System([("c", 3), ("a", 1), ("b", 2)], [("t", 25, 3, True, 9), ("f", 5, 7, True, 4)])
        second = System([("b", 2), ("c", 3), ("d", 3)], [("f", 5, 6, True, 4), ("g", 2, 1, True, 0), ("t", 25, 4, True, 8)])
        rows = (("t", 25, 1, 3, True, 8), ("f", 5, 1, 6, True, 4))
        self.assertEqual(common_system(first, second), ((("c", 3), ("b", 2)), rows))
        self.assertEqual(common_system(second, first), ((("b", 2), ("c", 3)), rows[::-1]))

    def test_counts_and_rests(self):
        def row(first, second):
            return common_system(System([], [("f", 9) + first]), System([], [("f", 9) + second]))[1][0][2:]

        self.assertEqual(row((3, True, 5), (4, True, 2)), (1, 3, True, 2))
        self.assertEqual(row((3, False, 5), (4, False, 8)), (1, 3, False, 5))
        self.assertEqual(row((3, False, 0), (4, True, 0)), (2, 3, False, 0))
        self.assertEqual(row((3, True, 0), (4, False, 0)), (2, 3, False, 0))
        self.assertEqual(row((None, True, 1), (4, True, 1)), (1, 4, True, 1))
        self.assertEqual(row((4, True, 1), (None, True, 1)), (1, 4, True, 1))
        self.assertEqual(row((None, True, 1), (None, False, 1)), (2, None, False, 1))
        # Most is less than least.
        self.assertEqual(row((1, True, 1), (9, False, 1)), (2, 1, False, 1))

    def test_nothing_in_common(self):
        for first, second in ((EMPTY, EMPTY), (FIRST, EMPTY), (EMPTY, FIRST), (System([("x", 1)], []), FIRST)):
            self.assertEqual(common_system(first, second), ((), ()))
            self.assertEqual(conflicts(first, second), ())
            self.assertIsNone(first_conflict(first, second))

    def test_its_derivations_are_the_common_ones(self):
        chance = random.Random(21)
        for _ in range(120):
            first, second = small_pair(chance)
            simple, rows = common_system(first, second)
            known = {}
            for number in range(1, 60):
                trees = derivation_trees(first, number, known)
                common = [tree for tree in trees if tree_value(second, tree) is not None]
                self.assertEqual(common, [tree for tree in trees if self.is_common(dict(simple), rows, tree)])
                for tree in common:
                    self.assertEqual(tree_value(second, tree), number)

    def is_common(self, simple, rows, tree):
        return self.common_value(simple, rows, tree) is not None

    def common_value(self, simple, rows, tree):
        if isinstance(tree, str):
            return simple.get(tree)
        for word, value, least, most, unsaid, greatest_rest in rows:
            if word == tree[1]:
                count = 1 if tree[0] is None else self.common_value(simple, rows, tree[0])
                rest = 0 if tree[2] is None else self.common_value(simple, rows, tree[2])
                if count is None or rest is None or (tree[0] is None) != (unsaid and count == 1):
                    return None
                fits = least <= count and (most is None or count <= most) and rest <= greatest_rest
                return count * value + rest if fits else None
        return None


class Conflicts(unittest.TestCase):
    def test_document(self):
        self.assertEqual(conflicts(FIRST, SECOND), tuple([("t", "f", 0, m) for m in (0, 2, 3, 4)]))
        self.assertEqual(conflicts(SECOND, FIRST), ())
        self.assertEqual(first_conflict(FIRST, SECOND), ("t", "f", 0, 0))
        self.assertIsNone(first_conflict(SECOND, FIRST))

    def test_unsaid_in_one_alone(self):
        # The one of f and of g is unsaid in the first system alone: X is the least from 2 on, M is 0 or from 2 on.
        first = System(DIGITS, [("f", 10, 9, True, 9), ("g", 3, None, True, 0)])
        second = System(DIGITS, [("f", 10, 9, False, 9), ("g", 3, None, False, 0)])
        self.assertEqual(conflicts(first, second), (("f", "g", 2, 0), ("f", "g", 2, 2), ("f", "g", 2, 3)))
        # The other way round the one of g is said: M is from 1 on.
        self.assertEqual(conflicts(second, first), (("f", "g", 2, 1), ("f", "g", 2, 2), ("f", "g", 2, 3)))
        # Without 2, the least common one is 3; with both ones said it is 1.
        few = [("a", 1), ("c", 3)]
        first = System(few, first.multipliers)
        self.assertEqual(conflicts(first, System(few, second.multipliers)), (("f", "g", 3, 0), ("f", "g", 3, 3)))
        first = System(few, second.multipliers)
        self.assertEqual(conflicts(first, first), (("f", "g", 1, 1), ("f", "g", 1, 3)))

    def test_first_count_of_a_multiplier(self):
        # With two said ones a e is 2; no number from 2 on is less.
        rows = [("e", 2, 1, False, 0), ("f", 10, 9, True, 9), ("g", 3, None, True, 0)]
        first = System([("a", 1), ("i", 9)], rows)
        second = System([("a", 1), ("i", 9)], [rows[0], ("f", 10, 9, False, 9), ("g", 3, None, False, 0)])
        self.assertEqual(conflicts(first, second), (("f", "g", 2, 0), ("f", "g", 2, 2)))
        # In the second system the one of e is unsaid: 9 is the least common one.
        second = System([("a", 1), ("i", 9)], [("e", 2, 1, True, 0), ("f", 10, 9, False, 9), ("g", 3, None, False, 0)])
        self.assertEqual(conflicts(first, second), (("f", "g", 9, 0),))
        # It is above the greatest count of f in the second system, or in the first one.
        second = System([("a", 1), ("i", 9)], [("e", 2, 1, True, 0), ("f", 10, 8, False, 9), ("g", 3, None, False, 0)])
        self.assertEqual(conflicts(first, second), ())
        self.assertEqual(conflicts(second, first), ())

    def test_rests_of_both(self):
        first = System(DIGITS, [("f", 10, 9, True, 9), ("g", 3, 9, False, 0)])
        for rest, middles in ((9, (1, 2, 3)), (3, (1, 2, 3)), (2, (1, 2)), (1, (1,)), (0, ())):
            second = System(DIGITS, [("f", 10, 9, True, rest), ("g", 3, None, False, 0)])
            self.assertEqual(conflicts(first, second), tuple([("f", "g", 0, m) for m in middles]))
        for rest, middles in ((9, (1, 2, 3)), (8, (1, 2)), (6, (1, 2)), (5, (1,)), (3, (1,)), (2, ()), (0, ())):
            first = System(DIGITS, [("f", 10, 9, True, rest), ("g", 3, 9, False, 0)])
            second = System(DIGITS, [("f", 10, 9, True, 9), ("g", 3, None, False, 0)])
            self.assertEqual(conflicts(first, second), tuple([("f", "g", 0, m) for m in middles]))
        # With M = 0 the second system need have no rest at all.
        first = System(DIGITS, [("f", 10, 9, True, 9), ("g", 3, 9, True, 0)])
        second = System(DIGITS, [("f", 10, 9, True, 0), ("g", 3, None, False, 0)])
        self.assertEqual(conflicts(first, second), (("f", "g", 0, 0),))

    def test_counts_of_both(self):
        second = System(DIGITS, [("f", 10, 9, True, 9), ("g", 3, None, True, 0)])
        for count, middles in ((None, (0, 2, 3)), (3, (0, 2, 3)), (2, (0, 2)), (1, (0,))):
            first = System(DIGITS, [("f", 10, 9, True, 9), ("g", 3, count, True, 0)])
            self.assertEqual(conflicts(first, second), tuple([("f", "g", 0, m) for m in middles]))
        first = second
        for count, middles in ((13, (0, 2, 3)), (12, (0, 2)), (11, (0,)), (10, (0,)), (9, ())):
            second = System(DIGITS, [("f", 10, 9, True, 9), ("g", 3, count, True, 0)])
            self.assertEqual(conflicts(first, second), tuple([("f", "g", 0, m) for m in middles]))

    def test_middles_have_common_derivations(self):
        first = System(DIGITS, [("f", 10, 9, True, 9), ("g", 3, 9, False, 0)])
        second = System([("a", 1), ("c", 3)], [("f", 10, 9, True, 9), ("g", 3, None, False, 0)])
        self.assertEqual(conflicts(first, second), (("f", "g", 0, 1), ("f", "g", 0, 3)))

    def test_order(self):
        rows = [("h", 1000, 5, True, 999), ("g", 30, 50, True, 29), ("f", 5, None, True, 4)]
        wide = [("f", 5, 3000, True, 4), ("g", 30, 2000, True, 29), ("h", 1000, None, True, 999)]
        first = System(DIGITS, rows)
        second = System(DIGITS, wide)
        found = conflicts(first, second)
        pairs = [told[:2] for told in found]
        self.assertEqual(sorted(set(pairs), key=pairs.index), [("h", "g"), ("h", "f"), ("g", "f")])
        self.assertEqual(list(found), sorted(found, key=lambda told: ("hgf".index(told[0]), "hgf".index(told[1]), told[3])))
        found = conflicts(System(DIGITS, rows[::-1]), second)
        self.assertEqual(list(found), sorted(found, key=lambda told: ("fgh".index(told[0]), "fgh".index(told[1]), told[3])))
        self.assertEqual(sorted(found), sorted(conflicts(first, second)))

    def test_great_numbers(self):
        rows = [("z", 100000, None, True, 99999), ("u", 2, 49999, True, 1)]
        first = System([("a", 1)], rows)
        second = System([("a", 1)], [("z", 100000, 1, True, 0), ("u", 2, None, True, 1)])
        self.assertEqual(conflicts(first, second), (("z", "u", 0, 0),))
        second = System([("a", 1)], [("z", 60000, 1, True, 40000), ("u", 2, None, True, 1)])
        first = System([("a", 1)], [("z", 60000, None, True, 59999), ("u", 2, 49999, True, 1)])
        expected = [("z", "u", 0, m) for m in [0] + list(range(2, 30000))]
        self.assertEqual(conflicts(first, second), tuple(expected))
        # X is a great number.
        first = System([("x", 9090)], [("p", 10, None, False, 9), ("q", 3, 9, True, 0)])
        second = System([("x", 9090)], [("p", 10, 9999, True, 9), ("q", 3, None, False, 0)])
        self.assertEqual(conflicts(first, second), (("p", "q", 9090, 0),))
        second = System([("x", 9090)], [("p", 10, 9089, True, 9), ("q", 3, None, False, 0)])
        self.assertEqual(conflicts(first, second), ())

    def test_a_multiplier_with_itself(self):
        # M times P would have to be within a rest that is less than P.
        chance = random.Random(22)
        for _ in range(300):
            first, second = small_pair(chance)
            self.assertFalse([found for found in conflicts(first, second) if found[0] == found[1]])

    def test_as_defined(self):
        chance = random.Random(23)
        seen = 0
        for _ in range(1500):
            pair = small_pair(chance)
            self.assertIsNone(mismatch(pair[0], pair[1]))
            for first, second in (pair, pair[::-1]):
                expected = [found[0] for found in Two(first, second, 20).conflicts()]
                found = conflicts(first, second)
                self.assertEqual(found, tuple(expected), (told(first), told(second)))
                self.assertEqual(first_conflict(first, second), expected[0] if expected else None)
                seen += 1 if expected else 0
        self.assertGreater(seen, 100)

    def test_one_system(self):
        """[G4]: a conflict of a system is one from it to itself."""
        chance = random.Random(24)
        for _ in range(400):
            system = small_system(chance)
            found = conflict(system)
            self.assertEqual(first_conflict(system, system), None if found is None else found[:4])

    def test_kinds_of_values(self):
        for found in conflicts(FIRST, SECOND):
            self.assertIsInstance(found, tuple)
        simple, rows = common_system(FIRST, SECOND)
        for row in (simple, rows) + simple + rows:
            self.assertIsInstance(row, tuple)


if __name__ == "__main__":
    unittest.main()

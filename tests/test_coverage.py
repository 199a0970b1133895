"""What can be said, and certificates that all can: [E1] to [E3]."""

import random
import unittest

from sayonce.coverage import certificate, first_double, first_gap, is_certificate, sayable_count
from sayonce.derivations import derivation_count
from sayonce.systems import System
from tests.reference import is_row_of_steps, is_said, small_system, trees

DIGITS = [("a", 1), ("b", 2), ("c", 3), ("d", 4)]
F = ("f", 5, 4, True, 4)
T = ("t", 25, None, True, 24)
EXAMPLE = System(DIGITS, [F, T])
EMPTY = System([], [])
STEPS = (
    ("a", 0), ("b", 0), ("c", 0), ("d", 0), ("f", 1), ("f", 2), ("f", 3), ("f", 4), ("t", 1), ("t", 2),
)


class Examples(unittest.TestCase):
    def test_document(self):
        self.assertIsNone(first_gap(EXAMPLE))
        self.assertIsNone(first_double(EXAMPLE))
        self.assertEqual(certificate(EXAMPLE), STEPS)
        self.assertIs(is_certificate(EXAMPLE, STEPS), True)
        self.assertEqual(first_gap(System(DIGITS, [F, ("t", 25, None, True, 23)])), 49)
        self.assertEqual(first_gap(System(DIGITS[:3], [F, T])), 4)
        self.assertEqual(first_double(System(DIGITS, [("f", 5, 30, True, 4), T])), 25)
        few = System(DIGITS[:2], [("f", 5, 4, False, 4)])
        self.assertEqual(sayable_count(few, 1, 12), 8)
        said = (1, 2, 5, 6, 7, 10, 11, 12)
        for number in range(1, 20):
            self.assertEqual(sayable_count(few, number, number), 1 if number in said else 0)

    def test_without_words(self):
        self.assertEqual(first_gap(EMPTY), 1)
        self.assertIsNone(first_double(EMPTY))
        self.assertIsNone(certificate(EMPTY))
        self.assertEqual(sayable_count(EMPTY, 1, 10 ** 70), 0)
        mute = System([], [("t", 2, None, False, 1)])
        self.assertEqual((first_gap(mute), first_double(mute), certificate(mute)), (1, None, None))
        self.assertEqual(sayable_count(mute, 1, 10 ** 70), 0)

    def test_without_endless(self):
        self.assertEqual(first_gap(System(DIGITS, [F])), 25)
        self.assertEqual(first_gap(System(DIGITS, [])), 5)
        self.assertEqual(first_gap(System([("z", 100000)], [])), 1)
        self.assertIsNone(certificate(System(DIGITS, [F])))
        self.assertEqual(sayable_count(System(DIGITS, [F]), 3, 10 ** 70), 22)
        self.assertEqual(sayable_count(System([("z", 100000), ("y", 100000)], []), 1, 100000), 1)
        self.assertEqual(sayable_count(System([("z", 100000)], []), 1, 99999), 0)

    def test_large_values(self):
        bits = System([("a", 1), ("z", 100000)], [("w", 2, None, True, 1)])
        self.assertIsNone(first_gap(bits))
        self.assertEqual(first_double(bits), 100000)
        self.assertEqual(sayable_count(bits, 1, 10 ** 61), 10 ** 61)
        large = System([("a", 1)], [("w", 2, 49999, True, 1), ("t", 100000, None, True, 99999)])
        self.assertIsNone(first_gap(large))
        self.assertIsNone(first_double(large))
        self.assertIsNotNone(certificate(large))
        large = System([("a", 1)], [("w", 2, 49998, True, 1), ("t", 100000, None, True, 99999)])
        self.assertEqual(first_gap(large), 99998)
        large = System([("a", 1)], [("w", 2, 49999, True, 1), ("t", 99999, None, True, 99998)])
        self.assertEqual(first_double(large), 99999)
        large = System([("a", 1)], [("w", 2, 49999, True, 1), ("t", 100000, None, True, 99998)])
        self.assertEqual(first_gap(large), 199999)

    def test_double_words(self):
        self.assertEqual(first_double(System([("a", 3), ("b", 2), ("c", 3)], [F])), 3)
        self.assertEqual(first_double(System([("a", 1), ("b", 5)], [F])), 5)
        self.assertEqual(first_double(System([("a", 1), ("b", 25)], [T])), 25)
        # All numbers above the maximum have one outermost word alone.
        self.assertIsNone(first_double(System([("a", 1), ("b", 24)], [T])))

    def test_endless_value_above_all_others(self):
        system = System([("a", 1)], [("t", 100000, None, True, 99999)])
        self.assertEqual(first_gap(system), 2)
        self.assertIsNone(first_double(system))
        self.assertEqual(sayable_count(system, 1, 99999), 1)
        self.assertEqual(sayable_count(system, 1, 100000), 2)
        self.assertEqual(sayable_count(system, 1, 10 ** 10), 4)
        self.assertEqual(sayable_count(system, 10 ** 10, 10 ** 10 + 200000), 4)
        self.assertEqual(sayable_count(system, 10 ** 60, 10 ** 60), 1)


class Compared(unittest.TestCase):
    """Each system with the definitions, number by number."""

    def test_some_systems(self):
        chance = random.Random(12)
        for _ in range(150):
            system = small_system(chance)
            told = (system.simple, system.multipliers)
            known = {}
            flags = [is_said(system, number, known) for number in range(1, 601)]
            gap = flags.index(False) + 1 if False in flags else None
            self.assertEqual(first_gap(system), gap, told)
            self.assertEqual(certificate(system) is None, gap is not None, told)
            phrases = {}
            doubles = [number for number in range(1, 101) if len(trees(system, number, phrases)) > 1]
            self.assertEqual(first_double(system), doubles[0] if doubles else None, told)
            for _ in range(30):
                start = chance.randint(1, 600)
                stop = chance.randint(start, 600)
                self.assertEqual(sayable_count(system, start, stop), sum(flags[start - 1:stop]), (told, start, stop))
            for number in range(1, 50):
                self.assertEqual(sayable_count(system, number, number), flags[number - 1])
            self.check_large(chance, system)

    def check_large(self, chance, system):
        for size in (10 ** 6, 10 ** 20, 10 ** 62, 10 ** 150):
            start = chance.randint(size, 10 * size)
            count = 0
            for number in range(start, start + 12):
                said = derivation_count(system, number) > 0
                self.assertEqual(sayable_count(system, number, number), said, (system.multipliers, number))
                count += said
            self.assertEqual(sayable_count(system, start, start + 11), count)

    def test_said_large_numbers(self):
        chance = random.Random(13)
        for _ in range(100):
            system = small_system(chance)
            if system.endless() is None:
                continue
            _, value, _, unsaid, rest = system.endless()
            known = {}
            heads = [n for n in range(1, 60) if is_said(system, n, known)] + ([1] if unsaid else [])
            rests = [0] + [n for n in range(1, rest + 1) if is_said(system, n, known)]
            if not heads or (unsaid and set(heads) == {1} and not system.simple):
                continue
            number = chance.choice(heads) * value
            for _ in range(50):
                number = number * value + value * chance.choice(rests)
            number += chance.choice(rests)
            self.assertEqual(sayable_count(system, number, number), derivation_count(system, number) > 0)
            whole = sayable_count(system, 1, 2 * number)
            self.assertEqual(whole, sayable_count(system, 1, number) + sayable_count(system, number + 1, 2 * number))

    def test_certificates(self):
        chance = random.Random(14)
        seen = 0
        for _ in range(250):
            system = nearly_whole_system(chance)
            steps = certificate(system)
            self.assertEqual(steps is None, first_gap(system) is not None)
            if steps is None:
                continue
            seen += 1
            told = (system.simple, system.multipliers, steps)
            self.assertIs(is_certificate(system, steps), True, told)
            self.assertTrue(is_row_of_steps(system, steps))
            self.assertEqual(steps, farthest_steps(system), told)
            for _ in range(20):
                changed = changed_steps(chance, system, steps)
                self.assertIs(is_certificate(system, changed), is_row_of_steps(system, changed), (told, changed))
        self.assertGreater(seen, 50)
        self.assertLess(seen, 200)


def nearly_whole_system(chance):
    """A system with which, more often than others, every number is said."""
    simple = [("abcdefg"[value], value + 1) for value in range(chance.randint(1, 7)) if chance.random() < 0.95]
    chance.shuffle(simple)
    multipliers = []
    for word in "uvw"[:chance.randint(0, 3)]:
        value = chance.randint(2, 20)
        rest = value - 1 if chance.random() < 0.7 else chance.randint(0, value - 1)
        multipliers.append((word, value, chance.randint(1, 12), chance.random() < 0.7, rest))
    value = chance.randint(2, 60)
    multipliers.insert(chance.randint(0, len(multipliers)), ("t", value, None, chance.random() < 0.7, value - 1))
    return System(simple, multipliers)


def farthest_steps(system):
    """[E3], with all times looked at that there can be."""
    endless = system.endless()
    bound = max(system.bounded_maximum(), endless[1]) + endless[1]
    covered = 0
    steps = []
    while covered < bound:
        reaches = [(value, word, 0) for word, value in system.simple if value <= covered + 1]
        for word, value, most, unsaid, rest in system.multipliers:
            times = [
                n for n in range(1, covered + 2)
                if n * value <= covered + 1 and (most is None or n <= most) and (n <= covered or (n == 1 and unsaid))
            ]
            if times:
                reaches.append((times[-1] * value + min(rest, covered), word, times[-1]))
        best = max([told[0] for told in reaches])
        first = [told for told in reaches if told[0] == best][0]
        steps.append(first[1:])
        covered = best
    return tuple(steps)


def changed_steps(chance, system, steps):
    steps = list(steps)
    for _ in range(chance.randint(1, 2)):
        at = chance.randrange(len(steps) + 1)
        word = chance.choice(system.words() + ("q",))
        row = (word, 0 if system.simple_value(word) else chance.randint(0, 6))
        steps[at:at + chance.randint(0, 1)] = [row]
    return steps[:chance.choice((len(steps), len(steps), len(steps) - 1))]


class Certificates(unittest.TestCase):
    def test_first_of_those_that_reach_as_far(self):
        system = System([("b", 1), ("a", 1), ("d", 3), ("c", 2), ("e", 3)], [("g", 4, 1, True, 2), ("f", 4, None, True, 3)])
        self.assertEqual(certificate(system), (("b", 0), ("c", 0), ("d", 0), ("f", 1), ("f", 2)))
        system = System([("a", 1), ("z", 5)], [("g", 2, 4, True, 1), ("f", 2, None, True, 1)])
        self.assertEqual(certificate(system)[:4], (("a", 0), ("g", 1), ("g", 2), ("g", 3)))
        # Simple words go ahead of multipliers.
        system = System([("a", 1), ("z", 2)], [("g", 2, 4, True, 0), ("f", 2, None, True, 1)])
        self.assertEqual(certificate(system)[:2], (("a", 0), ("f", 1)))
        system = System([("a", 1), ("z", 2)], [("f", 3, None, True, 2), ("g", 2, 4, True, 0)])
        self.assertEqual(certificate(system)[:3], (("a", 0), ("z", 0), ("f", 1)))

    def test_greatest_times(self):
        system = System([("a", 1)], [("g", 2, 3, True, 1), ("f", 4, None, True, 3)])
        self.assertEqual(certificate(system), (("a", 0), ("g", 1), ("f", 1), ("f", 2)))
        system = System([("a", 1)], [("f", 2, None, True, 1)])
        self.assertEqual(certificate(system), (("a", 0), ("f", 1), ("f", 2)))
        self.assertIs(is_certificate(system, certificate(system)), True)

    def test_none(self):
        for system in (
            System(DIGITS, [F, ("t", 25, None, True, 23)]), System(DIGITS[:3], [F, T]), System(DIGITS[1:], [F, T]),
            System(DIGITS, [F, ("t", 25, 4, True, 24)]), System(DIGITS, [("f", 5, 3, True, 4), T]),
            System([], [F, T]),
        ):
            self.assertIsNone(certificate(system))
            self.assertIsNotNone(first_gap(system))
            self.assertIs(is_certificate(system, STEPS), False)

    def test_tuples_and_lists(self):
        self.assertIs(is_certificate(EXAMPLE, [list(step) for step in STEPS]), True)
        self.assertIs(is_certificate(EXAMPLE, list(STEPS)), True)
        self.assertIs(is_certificate(EXAMPLE, tuple([list(step) for step in STEPS])), True)
        steps = [list(step) for step in STEPS]
        is_certificate(EXAMPLE, steps)
        self.assertEqual(steps, [list(step) for step in STEPS])

    def test_other_rows(self):
        more = STEPS[:5] + (("a", 0), ("f", 1)) + STEPS[5:] + (("t", 1), ("t", 3), ("b", 0))
        self.assertIs(is_certificate(EXAMPLE, more), True)
        less = STEPS[:8] + (("t", 1), ("f", 3), ("t", 2))
        self.assertIs(is_certificate(EXAMPLE, less), True)

    def test_not_admissible(self):
        for steps in (
            (), [], STEPS[:-1], STEPS[1:], STEPS[:3] + STEPS[4:], STEPS[:7] + STEPS[8:],
            STEPS + (("q", 1),), STEPS + (("q", 0),), (("q", 0),) + STEPS, (("", 0),) + STEPS,
            (("a", 1),) + STEPS, STEPS + (("a", 1),), STEPS + (("a", -1),),
            STEPS + (("f", 0),), STEPS + (("f", -1),), STEPS + (("f", 5),), STEPS + (("t", 0),), STEPS + (("t", 10 ** 70),),
            (("f", 1),) + STEPS, (("b", 0),) + STEPS, STEPS[:4] + (("f", 2),) + STEPS[4:], STEPS[:8] + (("t", 2),) + STEPS[8:],
        ):
            self.assertIs(is_certificate(EXAMPLE, steps), False, steps)

    def test_the_edge_of_what_is_covered(self):
        # Up to 4 is covered: 5 is the first number that a step can reach from there, and 6 is too far.
        for value, admissible in ((4, True), (5, True), (6, False)):
            system = System(DIGITS, [("f", 5, 4, True, 4), ("g", value, 1, True, 0), T])
            steps = STEPS[:4] + (("g", 1),) + STEPS[4:]
            self.assertIs(is_certificate(system, steps), admissible)
        for value, admissible in ((4, True), (5, True), (6, False)):
            system = System(DIGITS + [("z", value)], [F, T])
            steps = STEPS[:4] + (("z", 0),) + STEPS[4:]
            self.assertIs(is_certificate(system, steps), admissible)

    def test_up_to_the_bound(self):
        # The bound is 50, or more with a greater simple word.
        self.assertIs(is_certificate(EXAMPLE, STEPS[:8] + (("t", 1), ("f", 4), ("t", 2))), True)
        system = System(DIGITS + [("z", 60)], [F, T])
        self.assertIs(is_certificate(system, STEPS), False)
        self.assertIs(is_certificate(system, STEPS + (("t", 3),)), True)
        self.assertEqual(certificate(system), STEPS + (("t", 3),))
        system = System(DIGITS, [F, ("g", 30, 1, True, 0), T])
        self.assertIs(is_certificate(system, STEPS), True)


class LargeNumbers(unittest.TestCase):
    def test_ranges(self):
        self.assertEqual(sayable_count(EXAMPLE, 1, 10 ** 60), 10 ** 60)
        self.assertEqual(sayable_count(EXAMPLE, 7, 10 ** 1000), 10 ** 1000 - 6)
        self.assertEqual(sayable_count(EXAMPLE, 10 ** 1000, 10 ** 1000), 1)
        powers = System([], [("w", 2, None, True, 1)])
        self.assertEqual(sayable_count(powers, 1, 2 ** 5000), 5000)
        self.assertEqual(sayable_count(powers, 2 ** 5000, 2 ** 5000), 1)
        self.assertEqual(sayable_count(powers, 2 ** 5000 + 1, 2 ** 5001 - 1), 0)
        self.assertEqual(sayable_count(powers, 2, 2 ** 5001 - 1), 5000)

    def test_digits(self):
        # The numbers of the digits 0, 1, 2.
        system = System([("a", 1), ("b", 2)], [("t", 10, None, False, 2)])
        self.assertEqual(sayable_count(system, 1, 10 ** 70 - 1), 3 ** 70 - 1)
        self.assertEqual(sayable_count(system, 10 ** 70, 2 * 10 ** 70 - 1), 3 ** 70)
        self.assertEqual(sayable_count(system, 2 * 10 ** 70 + 3, 2 * 10 ** 70 + 9), 0)
        self.assertEqual(sayable_count(system, 3 * 10 ** 70, 10 ** 71 - 1), 0)
        self.assertEqual(sayable_count(system, 10 ** 70, 10 ** 70 + 22), 9)
        # Without 1 a number can begin with an unsaid one alone.
        system = System([("b", 2)], [("t", 10, None, True, 9)])
        self.assertEqual(sayable_count(system, 1, 10 ** 70 - 1), 2 ** 70 - 1 + 2 ** 70 - 2)
        self.assertEqual(sayable_count(system, 1, 1), 0)
        self.assertEqual(sayable_count(system, 10, 10), 1)


if __name__ == "__main__":
    unittest.main()

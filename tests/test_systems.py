"""Words, multipliers, systems, and what is wrong with those that are none: [A1] to [A3], and the maximum of [B4]."""

import unittest

from sayonce.errors import SayError
from sayonce.systems import BadSystem, System, is_spoken, is_word


def letters(count):
    return ["abcdefghijklmnopqrstuvwxyz"[at] for at in range(count)]


def simple_rows(count):
    return [(letter, at + 1) for at, letter in enumerate(letters(count))]


def multiplier_rows(count):
    return [("x" + letter, 5, 4, True, 4) for letter in letters(count)]


class Faults(unittest.TestCase):
    def fault(self, simple, multipliers):
        with self.assertRaises(BadSystem) as caught:
            System(simple, multipliers)
        error = caught.exception
        return error.part, error.number, error.reason

    def test_errors_are_say_errors(self):
        self.assertTrue(issubclass(SayError, ValueError))
        self.assertTrue(issubclass(BadSystem, SayError))
        error = BadSystem("simple", 3, "word")
        self.assertEqual((error.part, error.number, error.reason), ("simple", 3, "word"))

    def test_many(self):
        self.assertEqual(self.fault(simple_rows(25), []), ("simple", None, "many"))
        self.assertEqual(self.fault([], multiplier_rows(7)), ("multipliers", None, "many"))
        System(simple_rows(24), multiplier_rows(6))

    def test_simple_rows(self):
        good = ("a", 1)
        for bad, reason in (
            (("b",), "length"), (("b", 1, 1), "length"), ((), "length"),
            (("", 1), "word"), (("B", 1), "word"), (("abcdefghi", 1), "word"), (("a b", 1), "word"),
            (("b", 0), "value"), (("b", -1), "value"), (("b", 100001), "value"), (("b", 10 ** 30), "value"),
            (("", 0), "word"),
        ):
            self.assertEqual(self.fault([good, bad, ("",)], []), ("simple", 1, reason), bad)
            self.assertEqual(self.fault([list(bad)], []), ("simple", 0, reason), bad)
        System([("a", 1), ("b", 100000)], [])

    def test_multiplier_rows(self):
        good = ("f", 5, 4, True, 4)
        for bad, reason in (
            (("b", 5, 4, True), "length"), (("b", 5, 4, True, 4, 4), "length"), ((), "length"),
            (("", 5, 4, True, 4), "word"), (("bC", 5, 4, True, 4), "word"), (("abcdefghi", 5, 4, True, 4), "word"),
            (("b", 1, 4, True, 0), "value"), (("b", 0, 4, True, 0), "value"), (("b", 100001, None, True, 0), "value"),
            (("b", 5, 0, True, 4), "count"), (("b", 5, -1, True, 4), "count"), (("b", 2, 100001, True, 0), "count"),
            (("b", 5, 4, True, 5), "rest"), (("b", 5, None, False, -1), "rest"),
            (("b", 5, 20000, True, 1), "large"), (("b", 50001, 2, True, 0), "large"), (("b", 2, 100000, True, 0), "large"),
            (("", 1, 0, True, 5), "word"), (("b", 1, 0, True, 5), "value"), (("b", 5, 0, True, 5), "count"),
            (("b", 5, 20000, True, 5), "rest"),
        ):
            self.assertEqual(self.fault([("a", 1)], [good, bad, ()]), ("multipliers", 1, reason), bad)
            self.assertEqual(self.fault([], [list(bad)]), ("multipliers", 0, reason), bad)

    def test_greatest_multipliers(self):
        System([], [("b", 2, 50000, True, 0), ("c", 100000, 1, False, 0), ("d", 5, 19999, True, 4),
                    ("e", 100000, None, False, 99999)])

    def test_twice(self):
        f = ("f", 5, 4, True, 4)
        self.assertEqual(self.fault([("a", 1), ("b", 2), ("a", 1), ("b", 2)], []), ("simple", 2, "twice"))
        self.assertEqual(self.fault([("a", 1), ("f", 2)], [("g", 5, 4, True, 4), f, f]), ("multipliers", 1, "twice"))
        self.assertEqual(self.fault([("a", 1)], [f, ("g", 5, 4, True, 4), f]), ("multipliers", 2, "twice"))

    def test_endless(self):
        rows = [("f", 5, None, True, 4), ("g", 6, 2, True, 4), ("h", 7, None, True, 4), ("i", 7, None, True, 4)]
        self.assertEqual(self.fault([], rows), ("multipliers", 2, "endless"))
        System([], rows[:2])

    def test_order(self):
        endless = [("f", 5, None, True, 4), ("f", 5, None, True, 4)]
        wrong = endless + [()]
        many = wrong * 3
        twice = [("a", 1), ("a", 1)]
        self.assertEqual(self.fault([()] * 25, many), ("simple", None, "many"))
        self.assertEqual(self.fault(twice + [()], many), ("simple", 2, "length"))
        self.assertEqual(self.fault(twice, many), ("multipliers", None, "many"))
        self.assertEqual(self.fault(twice, wrong), ("multipliers", 2, "length"))
        self.assertEqual(self.fault(twice, endless), ("simple", 1, "twice"))
        self.assertEqual(self.fault([], endless), ("multipliers", 1, "twice"))


class Systems(unittest.TestCase):
    def test_lists_and_tuples(self):
        simple = [["a", 1], ("b", 1)]
        multipliers = [["f", 5, None, False, 4], ("g", 6, 4, True, 0)]
        system = System(simple, multipliers)
        told = (("a", 1), ("b", 1)), (("f", 5, None, False, 4), ("g", 6, 4, True, 0))
        self.assertEqual((system.simple, system.multipliers), told)
        simple[0][1] = 7
        simple.append(("c", 3))
        multipliers[0][0] = "z"
        multipliers.clear()
        self.assertEqual((system.simple, system.multipliers), told)
        self.assertEqual(system.words(), ("a", "b", "f", "g"))
        self.assertEqual((system.simple_value("a"), system.multiplier("z")), (1, None))
        again = System(system.simple, system.multipliers)
        self.assertEqual((again.simple, again.multipliers), told)
        for row in system.simple + system.multipliers:
            self.assertIsInstance(row, tuple)

    def test_arguments_stay(self):
        simple, multipliers = [["a", 1]], [["f", 5, 4, True, 4]]
        System(simple, multipliers)
        self.assertEqual((simple, multipliers), ([["a", 1]], [["f", 5, 4, True, 4]]))

    def test_look_ups(self):
        system = System([("a", 1), ("b", 30)], [("f", 5, 4, True, 4), ("t", 25, None, False, 24)])
        self.assertEqual([system.simple_value(word) for word in ("a", "b", "f", "z", "")], [1, 30, None, None, None])
        self.assertEqual(system.multiplier("t"), ("t", 25, None, False, 24))
        self.assertEqual(system.multiplier("f"), ("f", 5, 4, True, 4))
        self.assertIsNone(system.multiplier("a"))
        self.assertIsNone(system.multiplier("z"))
        self.assertEqual(system.endless(), ("t", 25, None, False, 24))
        self.assertIsNone(System([("a", 1)], [("f", 5, 4, True, 4)]).endless())

    def test_empty_system(self):
        system = System((), ())
        self.assertEqual((system.simple, system.multipliers, system.words()), ((), (), ()))
        self.assertIsNone(system.endless())
        self.assertEqual(system.bounded_maximum(), 0)

    def test_bounded_maximum(self):
        f, g, t = ("f", 5, 4, True, 3), ("g", 7, 3, False, 6), ("t", 25, None, True, 24)
        self.assertEqual(System([("a", 9), ("b", 4)], []).bounded_maximum(), 9)
        self.assertEqual(System([("a", 9)], [f]).bounded_maximum(), 23)
        self.assertEqual(System([("a", 9)], [f, g, t]).bounded_maximum(), 27)
        self.assertEqual(System([("a", 90)], [g, f]).bounded_maximum(), 90)
        self.assertEqual(System([], [t]).bounded_maximum(), 0)


class Words(unittest.TestCase):
    def test_is_word(self):
        for text in ("a", "z", "rest", "one", "up", "abcdefgh", "zzzzzzzz"):
            self.assertIs(is_word(text), True, text)
        for text in ("", "abcdefghi", "A", "aB", "a1", "a b", " a", "a ", "a\n", "a-b", "{", "`", "\u00e4", "\u0430"):
            self.assertIs(is_word(text), False, text)


class Spoken(unittest.TestCase):
    def test_kinds(self):
        for row, first, last in (
            (("f", 5, 4, False, 4), 1, 4), (("f", 5, 4, True, 4), 2, 4),
            (("f", 5, None, False, 4), 1, None), (("f", 5, None, True, 4), 2, None),
            (("f", 5, 1, True, 4), 2, 1), (("f", 5, 1, False, 4), 1, 1),
        ):
            for count in (-10 ** 70, -1, 0, 1, 2, 3, 4, 5, 6, 100000, 100001, 10 ** 70):
                told = first <= count and (last is None or count <= last)
                self.assertIs(is_spoken(row, count), told, (row, count))
                self.assertIs(is_spoken(list(row), count), told, (row, count))


if __name__ == "__main__":
    unittest.main()

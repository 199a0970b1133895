"""Texts of systems, and where they go wrong: [A4] to [A6]."""

import random
import unittest

from sayonce.errors import SayError
from sayonce.systems import BadSystem, System
from sayonce.texts import BadText, TooLong, read_system, write_system
from tests.reference import is_text, wrong_place

WHOLE = "a 1\nb 2\nfive 5 up to 4 rest 2 one unsaid"
ENDLESS = "t 25 without end rest 24"


class Reading(unittest.TestCase):
    def read(self, text):
        system = read_system(text)
        return system.simple, system.multipliers

    def test_example(self):
        self.assertEqual(self.read(WHOLE), ((("a", 1), ("b", 2)), (("five", 5, 4, True, 2),)))

    def test_kinds_of_lines(self):
        self.assertEqual(self.read(ENDLESS), ((), (("t", 25, None, False, 24),)))
        self.assertEqual(self.read(ENDLESS + " one unsaid"), ((), (("t", 25, None, True, 24),)))
        self.assertEqual(self.read("t 25 up to 4000 rest 0"), ((), (("t", 25, 4000, False, 0),)))
        self.assertEqual(self.read("abcdefgh 100000"), ((("abcdefgh", 100000),), ()))

    def test_order_of_lines(self):
        self.assertEqual(
            self.read("g 6 up to 2 rest 1\nb 2\nf 5 without end rest 0\na 1"),
            ((("b", 2), ("a", 1)), (("g", 6, 2, False, 1), ("f", 5, None, False, 0))),
        )

    def test_keywords_are_words(self):
        for word in ("rest", "one", "up", "to", "without", "end", "unsaid"):
            self.assertEqual(self.read(word + " 7"), (((word, 7),), ()))
            self.assertEqual(self.read(f"{word} 7 up to 2 rest 3 one unsaid"), ((), ((word, 7, 2, True, 3),)))
            self.assertEqual(self.read(f"{word} 7 without end rest 3"), ((), ((word, 7, None, False, 3),)))

    def test_blanks_and_empty_lines(self):
        self.assertEqual(self.read(""), ((), ()))
        self.assertEqual(self.read(" "), ((), ()))
        self.assertEqual(self.read("\n\n  \n"), ((), ()))
        self.assertEqual(
            self.read("\n  a    1   \n\n   f  5   up  to   4   rest   2   one   unsaid  \n  t 9   without   end  rest 0 \n"),
            ((("a", 1),), (("f", 5, 4, True, 2), ("t", 9, None, False, 0))),
        )


class GoingWrong(unittest.TestCase):
    def place(self, text):
        with self.assertRaises(BadText) as caught:
            read_system(text)
        return caught.exception.position

    def test_errors(self):
        self.assertTrue(issubclass(BadText, SayError))
        self.assertTrue(issubclass(TooLong, SayError))
        self.assertEqual(BadText(7).position, 7)

    def test_examples(self):
        self.assertEqual(self.place("a 1 b"), 4)
        self.assertEqual(self.place("f 5 until"), 5)
        self.assertEqual(self.place("a"), 1)

    def test_each_kind_of_place(self):
        for text, place in (
            ("A 1", 0), ("1 a", 0), ("a\t1", 1), ("a 1\r\n", 3), ("\ta 1", 0), ("a\n", 1), ("a \n", 2), ("a 1\nb\nc 3", 5),
            ("abcdefghi 1", 8), ("abcdefgh1", 8), ("aB", 1), ("a b", 2), ("a -1", 2), ("a +1", 2), ("a 01", 3), ("a 00", 3),
            ("a 1234567", 8), ("a 1.5", 3), ("a 1b", 3), ("a 1 2", 4), ("a 1_0", 3), ("a \u0661", 2), ("\u00e4 1", 0),
            ("a 1\u00a0", 3), ("f 5 x", 4), ("f 5 u", 5), ("f 5 upto", 6), ("f 5 up\n", 6), ("f 5 up t", 8),
            ("f 5 up too", 9), ("f 5 up to", 9), ("f 5 up to x", 10), ("f 5 up to 4", 11), ("f 5 up to 4\n", 11),
            ("f 5 up to 4 ", 12), ("f 5 up to 4 one", 12), ("f 5 up to 4 re", 14), ("f 5 up to 4 rest2", 16),
            ("f 5 up to 4 rest \n", 17), ("f 5 up to 4 rest 1234567", 23), ("f 5 up to 04 rest 2", 11),
            ("f 5 up to 4 rest 2 un", 19), ("f 5 up to 4 rest 2one", 18), ("f 5 up to 4 rest 2 one", 22),
            ("f 5 up to 4 rest 2 one\n", 22), ("f 5 up to 4 rest 2 one unsaids", 29),
            ("f 5 up to 4 rest 2 one unsaid x", 30), ("f 5 up to 4 rest 2 one unsai", 28), ("f 5 w", 5), ("f 5 wi up", 6),
            ("f 5 without", 11), ("f 5 without end", 15), ("f 5 without end 4", 16), ("f 5 without ends", 15),
            ("f 5 without up", 12), ("f 5 up to end", 10), ("f 5 without end rest", 20),
            ("f 5 without end rest 3 one unsaid rest", 34), ("a 1\n\n b 2 \n c", 13), ("one", 3), ("rest rest", 5),
        ):
            self.assertEqual(self.place(text), place, text)
            self.assertEqual(wrong_place(text), place, text)

    def test_cut_short(self):
        text = WHOLE + "\n" + ENDLESS + " one unsaid\nrest 0\n  up 100 without   end rest 7"
        for at in range(len(text)):
            place = wrong_place(text[:at])
            self.assertIn(place, (None, at))
            if place is not None:
                self.assertEqual(self.place(text[:at]), at)

    def check(self, text):
        place = wrong_place(text)
        if place is not None:
            self.assertEqual(self.place(text), place, text)
        else:
            try:
                read_system(text)
            except BadSystem:
                pass

    def test_each_changed_character(self):
        text = "a 10\nfive 5 up to 40 rest 2 one unsaid\n t 0 without end  rest 4"
        for at in range(len(text) + 1):
            for sign in "aeptuow019 \n-":
                self.check(text[:at] + sign + text[at + 1:])
                self.check(text[:at] + sign + text[at:])
            self.check(text[:at] + text[at + 1:])

    def test_shuffled_words(self):
        chance = random.Random(20)
        pieces = ("a", "up", "to", "rest", "one", "unsaid", "without", "end", "0", "5", "12", " ", " ", " ", " ", "\n")
        for _ in range(3000):
            self.check("".join([chance.choice(pieces) for _ in range(chance.randint(1, 14))]))

    def test_sizes_do_not_count(self):
        for text in ("a 0", "a 999999", "f 0 up to 0 rest 999999 one unsaid", "a 1\na 1", "f 5 without end rest 5"):
            self.assertTrue(is_text(text))
            with self.assertRaises(BadSystem):
                read_system(text)
            self.assertEqual(self.place(text + "\n?"), len(text) + 1)
        many = "\n".join(["a 1"] * 30)
        with self.assertRaises(BadSystem):
            read_system(many)
        self.assertEqual(self.place(many + " ?"), len(many) + 1)

    def test_bad_system(self):
        for text, told in (
            ("a 0", ("simple", 0, "value")),
            ("f 5 up to 4 rest 2\na 1\nb 100001", ("simple", 1, "value")),
            ("f 1 up to 4 rest 0", ("multipliers", 0, "value")),
            ("f 5 up to 0 rest 0", ("multipliers", 0, "count")),
            ("f 5 up to 100001 rest 0", ("multipliers", 0, "count")),
            ("f 5 without end rest 5", ("multipliers", 0, "rest")),
            ("f 5 up to 20000 rest 1", ("multipliers", 0, "large")),
            ("a 1\nb 2\na 3", ("simple", 2, "twice")),
            ("a 5 without end rest 4\na 3", ("multipliers", 0, "twice")),
            ("a 5 without end rest 4\nb 5 without end rest 4", ("multipliers", 1, "endless")),
            ("\n".join(f"a{chr(97 + at)} 1" for at in range(25)), ("simple", None, "many")),
            ("\n".join(f"a{chr(97 + at)} 5 up to 1 rest 0" for at in range(7)), ("multipliers", None, "many")),
        ):
            with self.assertRaises(BadSystem) as caught:
                read_system(text)
            error = caught.exception
            self.assertEqual((error.part, error.number, error.reason), told, text)

    def test_too_long(self):
        self.assertEqual(read_system(" " * 2000).words(), ())
        self.assertEqual(read_system("a 1" + "\n" * 1997).words(), ("a",))
        for text in (" " * 2001, "?" * 2001, "a 0" + "\n" * 1998, "a 1\n" * 1000):
            with self.assertRaises(TooLong):
                read_system(text)
        self.assertEqual(self.place("?" * 2000), 0)
        self.assertEqual(self.place(" " * 1999 + "a"), 2000)
        self.assertEqual(self.place("a 0\n" + " " * 1995 + "?"), 1999)


class Writing(unittest.TestCase):
    def test_lines(self):
        self.assertEqual(write_system(read_system(WHOLE)), WHOLE)
        self.assertEqual(write_system(System([], [])), "")
        system = System([("b", 2), ("one", 100000)],
                        [("g", 6, 2, True, 0), ("t", 25, None, False, 24), ("rest", 5, 7, False, 1)])
        text = "b 2\none 100000\ng 6 up to 2 rest 0 one unsaid\nt 25 without end rest 24\nrest 5 up to 7 rest 1"
        self.assertEqual(write_system(system), text)

    def test_there_and_back(self):
        chance = random.Random(6)
        for _ in range(200):
            system = some_system(chance)
            again = read_system(write_system(system))
            self.assertEqual((again.simple, again.multipliers), (system.simple, system.multipliers))

    def test_none_is_shorter(self):
        text = write_system(read_system("  a  1 \n\nf 5 without   end rest 0   one unsaid\n b 2"))
        self.assertEqual(text, "a 1\nb 2\nf 5 without end rest 0 one unsaid")
        wanted = read_system(text)
        for at in range(len(text)):
            try:
                system = read_system(text[:at] + text[at + 1:])
            except SayError:
                continue
            self.assertNotEqual((system.simple, system.multipliers), (wanted.simple, wanted.multipliers))


def some_system(chance):
    words = [first + last for first in "abcxyz" for last in ("", "end", "restup")]
    chance.shuffle(words)
    simple = [(words.pop(), chance.randint(1, 100000)) for _ in range(chance.randint(0, 8))]
    multipliers = []
    for at in range(chance.randint(0, 6)):
        value = chance.randint(2, 1000)
        count = None if at == 2 else chance.randint(1, 99)
        multipliers.append((words.pop(), value, count, chance.random() < 0.5, chance.randint(0, value - 1)))
    return System(simple, multipliers)


if __name__ == "__main__":
    unittest.main()

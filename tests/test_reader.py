"""Reading word by word: [F1] to [F3]."""

import random
import unittest

from sayonce.errors import SayError
from sayonce.phrases import error_index, next_words, values
from sayonce.reader import NotInSystem, NotPossible, NoWord, Reader, ReaderError, TooManyWords
from sayonce.systems import System
from tests.reference import parses, small_system, trees

SIMPLE = [("one", 1), ("two", 2), ("three", 3), ("four", 4)]
FIVE = ("five", 5, 4, True, 4)
HUNDRED = ("hundred", 100, None, True, 99)
FEW = System(SIMPLE, [FIVE])
ALL = System(SIMPLE, [FIVE, HUNDRED])
EMPTY = System([], [])

# Between two of the endless word each row of four words can be taken in 14 ways.
LARGE = System([], [
    ("t", 100000, None, True, 99999), ("u", 43, 2324, True, 42), ("v", 7, 14284, True, 6), ("w", 3, 33332, True, 2),
    ("x", 2, 49999, True, 1),
])


def read(system, words):
    reader = Reader(system)
    for word in words:
        reader.push(word)
    return reader


def bounds(system, words):
    return read(system, words.split()).bounds()


class Examples(unittest.TestCase):
    def test_document(self):
        self.assertEqual(bounds(FEW, ""), (1, 24, ()))
        self.assertEqual(bounds(FEW, "three"), (3, 19, (3,)))
        self.assertEqual(bounds(FEW, "three five"), (15, 19, (15,)))
        self.assertEqual(bounds(FEW, "five"), (5, 9, (5,)))
        self.assertEqual(bounds(FEW, "three five two"), (17, 17, (17,)))
        reader = read(FEW, ("three", "five", "two"))
        with self.assertRaises(NotPossible):
            reader.push("one")

    def test_no_greatest(self):
        for words in ("", "three", "hundred", "five", "two hundred four", "two hundred three five two"):
            self.assertIsNone(bounds(ALL, words)[1], words)
        self.assertEqual(bounds(ALL, "hundred two"), (102, None, (102,)))
        self.assertEqual(bounds(ALL, "hundred"), (100, None, (100,)))

    def test_one_number_with_an_endless_word(self):
        # One cannot stand ahead of any word here, but ahead of the one of a multiplier whose one is said it can.
        self.assertEqual(bounds(ALL, "one"), (1, 1, (1,)))
        self.assertEqual(bounds(ALL, "hundred one"), (101, None, (101,)))
        self.assertEqual(bounds(System(SIMPLE, [("five", 5, 4, False, 4), HUNDRED]), "one"), (1, None, (1,)))
        self.assertEqual(bounds(System(SIMPLE, [FIVE, ("hundred", 100, None, False, 99)]), "one"), (1, None, (1,)))
        self.assertEqual(bounds(System([("one", 1)], [HUNDRED]), ""), (1, None, ()))
        self.assertEqual(bounds(System([("one", 2)], [HUNDRED]), "one"), (2, None, (2,)))

    def test_nothing_to_say(self):
        for system in (EMPTY, System([], [("t", 5, 4, False, 4)]), System([], [("t", 5, None, False, 4)])):
            self.assertEqual(Reader(system).bounds(), (None, None, ()))
            self.assertIs(Reader(system).allows(5), False)
            self.assertEqual(Reader(system).meanings(), ())
        self.assertEqual(Reader(System([], [("t", 5, 4, True, 4)])).bounds(), (5, 5, ()))
        self.assertEqual(Reader(System([], [("t", 5, None, True, 4)])).bounds(), (5, None, ()))
        self.assertEqual(Reader(System([("z", 7), ("y", 9), ("x", 8)], [])).bounds(), (7, 9, ()))

    def test_push_and_pop_tell_the_bounds(self):
        reader = Reader(FEW)
        self.assertEqual(reader.push("three"), (3, 19, (3,)))
        self.assertEqual(reader.push("five"), (15, 19, (15,)))
        self.assertEqual(reader.push("two"), (17, 17, (17,)))
        self.assertEqual(reader.words(), ("three", "five", "two"))
        self.assertEqual(reader.meanings(), (17,))
        self.assertEqual(reader.pop(), (15, 19, (15,)))
        self.assertEqual(reader.push("four"), (19, 19, (19,)))
        self.assertEqual([reader.pop(), reader.pop()], [(15, 19, (15,)), (3, 19, (3,))])
        self.assertEqual(reader.pop(), (1, 24, ()))
        self.assertEqual((reader.words(), reader.meanings()), ((), ()))

    def test_allows(self):
        reader = read(FEW, ("three",))
        self.assertEqual([n for n in range(-3, 40) if reader.allows(n)], [3, 15, 16, 17, 18, 19])
        reader = read(ALL, ("three",))
        allowed = [n for n in range(1, 2000) if reader.allows(n)]
        hundreds = [100 * count + rest for count in (3, 15, 16, 17, 18, 19) for rest in range(25)]
        self.assertEqual(allowed, [3, 15, 16, 17, 18, 19] + hundreds)
        reader = read(ALL, ("hundred", "five"))
        self.assertEqual([n for n in range(1, 10000) if reader.allows(n)], [105, 106, 107, 108, 109])
        self.assertEqual([n for n in range(10500, 10502) if reader.allows(n)], [10500, 10501])
        reader = read(FEW, ("five", "two"))
        self.assertEqual([n for n in range(1, 40) if reader.allows(n)], [7])

    def test_large_numbers(self):
        reader = read(ALL, ("three",))
        for number in (3 * 10 ** 58, 3 * 10 ** 58 + 99, 17 * 10 ** 58, 16 * 10 ** 58 + 10 ** 30 + 24):
            self.assertIs(reader.allows(number), number % 100 < 25, number)
        for number in (10 ** 60, 2 * 10 ** 58, 3 * 10 ** 59, 10 ** 58, 14 * 10 ** 58, 20 * 10 ** 58, 3 * 10 ** 57):
            self.assertIs(reader.allows(number), False, number)
        reader = read(ALL, ("hundred",) * 20)
        self.assertIs(reader.allows(10 ** 40), True)
        self.assertIs(reader.allows(10 ** 60), True)
        self.assertIs(reader.allows(10 ** 60 - 1), False)
        self.assertIs(reader.allows(10 ** 40 + 1), True)
        self.assertIs(reader.allows(10 ** 38), False)
        reader = Reader(ALL)
        self.assertIs(reader.allows(10 ** 60), True)
        self.assertIs(reader.allows(10 ** 60 + 25), False)
        bits = read(System([("a", 1)], [("w", 2, None, True, 1)]), ("w", "w", "a", "w", "a"))
        self.assertEqual([n for n in range(48) if bits.allows(n)], [11, 22, 23, 44, 45, 46, 47])
        self.assertIs(bits.allows(11 * 2 ** 195 + 12345), True)
        self.assertIs(bits.allows(10 * 2 ** 195 + 12345), False)

    def test_zero_and_below(self):
        for system in (FEW, ALL, EMPTY):
            for value in (0, -1, -5, -100, -10 ** 60):
                self.assertIs(Reader(system).allows(value), False)
        for value in (0, -1, -5, -100, -10 ** 60):
            self.assertIs(read(ALL, ("hundred", "five")).allows(value), False)

    def test_greatest_count_of_a_word_to_come(self):
        # Behind l h the word m is to come; its count is at most 123.
        system = System([("a", 1), ("k", 11), ("l", 12), ("z", 9)], [("h", 10, 20, True, 9), ("m", 2, 123, False, 1)])
        self.assertEqual(bounds(system, "l h"), (120, 247, (120,)))
        self.assertEqual(bounds(system, "l h z"), (129, 129, (129,)))
        # p q is 8 or 12, so p q h z is 89 or 129.
        rows = [("h", 10, 20, True, 9), ("m", 2, 123, False, 1), ("p", 6, 2, True, 5), ("q", 2, 6, True, 0)]
        system = System([("a", 1), ("z", 9)], rows)
        self.assertEqual(bounds(system, "p q h z"), (89, 179, (89, 129)))
        rows[1] = ("m", 2, 129, False, 1)
        self.assertEqual(bounds(System([("a", 1), ("z", 9)], rows), "p q h z"), (89, 259, (89, 129)))
        rows[1] = ("m", 2, 88, False, 1)
        self.assertEqual(bounds(System([("a", 1), ("z", 9)], rows), "p q h z"), (89, 129, (89, 129)))


class Compared(unittest.TestCase):
    """Each system with the definitions, looked through."""

    def test_some_systems(self):
        chance = random.Random(21)
        checked = 0
        for _ in range(150):
            system = small_system(chance)
            last = max(system.bounded_maximum(), 60)
            known = {}
            phrases = {number: trees(system, number, known) for number in range(1, last + 1)}
            if sum([len(found) for found in phrases.values()]) < 3000:
                checked += 1
                self.walk(chance, system, phrases)
        self.assertGreater(checked, 100)

    def walk(self, chance, system, phrases):
        reader = Reader(system)
        words = ()
        self.compare(system, phrases, reader, words)
        for _ in range(12):
            if words and chance.random() < 0.2:
                words = words[:-1]
                told = reader.pop()
            elif not system.words():
                return
            else:
                word = chance.choice(system.words())
                if not parses(system, words + (word,)):
                    before = reader.bounds()
                    with self.assertRaises(NotPossible):
                        reader.push(word)
                    self.assertEqual((reader.words(), reader.bounds()), (words, before))
                    continue
                words += (word,)
                told = reader.push(word)
            self.assertEqual(told, reader.bounds())
            self.compare(system, phrases, reader, words)

    def compare(self, system, phrases, reader, words):
        told = (system.simple, system.multipliers, words)
        possible = [
            number for number, found in phrases.items()
            if [phrase for phrase in found if phrase[:len(words)] == words]
        ]
        least, greatest, numbers = reader.bounds()
        pairs = parses(system, words) if words else []
        self.assertEqual(numbers, tuple(sorted(set([value for value, _ in pairs]))), told)
        self.assertEqual(reader.meanings(), numbers, told)
        self.assertEqual(reader.words(), words)
        self.assertEqual([n for n in range(-1, max(phrases) + 1) if reader.allows(n)], possible, told)
        if words:
            self.assertEqual(least, numbers[0])
        else:
            self.assertEqual(least, possible[0] if possible else None, told)
        if system.endless() is None:
            self.assertEqual(greatest, possible[-1] if possible else None, told)
        else:
            self.assertEqual(greatest, 1 if possible == [1] else None, told)

    def test_as_phrases_tell(self):
        chance = random.Random(22)
        for _ in range(60):
            system = small_system(chance)
            if system.words():
                reader = Reader(system)
                for _ in range(8):
                    come = next_words(system, reader.words())
                    if not come:
                        break
                    reader.push(chance.choice(come))
                    self.assertEqual(reader.meanings(), values(system, reader.words()))
                    for number in reader.meanings():
                        self.assertIs(reader.allows(number), True)


class ManyValues(unittest.TestCase):
    def test_more_than_a_hundred(self):
        reader = read(LARGE, tuple("tuvwx" * 3))
        told = reader.meanings()
        self.assertEqual(len(told), 14 ** 3)
        self.assertEqual(told, tuple(sorted(set(told))))
        self.assertEqual(reader.bounds(), (told[0], None, told))
        for number in told[::300]:
            self.assertIs(reader.allows(number), True)
        self.assertEqual(len(reader.pop()[2]), 980)

    def test_a_long_row(self):
        reader = read(LARGE, tuple("tuvx" * 6))
        self.assertEqual(len(reader.words()), 24)
        self.assertEqual(len(reader.meanings()), 5 ** 6)


class Errors(unittest.TestCase):
    def test_classes(self):
        self.assertTrue(issubclass(ReaderError, SayError))
        for error in (NotInSystem, TooManyWords, NotPossible, NoWord):
            self.assertEqual(error.__bases__, (ReaderError,))

    def unchanged(self, reader, error, word):
        before = (reader.words(), reader.meanings(), reader.bounds(), [reader.allows(n) for n in range(130)])
        with self.assertRaises(error):
            reader.push(word)
        after = (reader.words(), reader.meanings(), reader.bounds(), [reader.allows(n) for n in range(130)])
        self.assertEqual(after, before)

    def test_not_in_system(self):
        for word in ("six", "", "One", "twofive"):
            self.unchanged(Reader(ALL), NotInSystem, word)
            self.unchanged(read(ALL, ("two", "five")), NotInSystem, word)
            self.unchanged(Reader(EMPTY), NotInSystem, word)

    def test_not_possible(self):
        self.unchanged(read(ALL, ("two", "five", "one")), NotPossible, "one")
        self.unchanged(read(ALL, ("one",)), NotPossible, "hundred")
        self.unchanged(Reader(System([], [("t", 5, 4, False, 4)])), NotPossible, "t")
        reader = read(ALL, ("two", "five", "one"))
        for _ in range(5):
            self.unchanged(reader, NotPossible, "five")
        self.assertEqual(reader.push("hundred"), (1100, None, (1100,)))

    def test_too_many_words(self):
        reader = read(ALL, ("hundred",) * 23)
        self.assertEqual(reader.push("hundred"), (100 ** 24, None, (100 ** 24,)))
        for word in ("hundred", "one", "two"):
            self.unchanged(reader, TooManyWords, word)
        self.unchanged(reader, NotInSystem, "six")
        reader.pop()
        self.unchanged(reader, NotInSystem, "six")
        self.assertEqual(reader.push("four")[2], (100 ** 23 + 4,))
        self.assertIsNone(error_index(ALL, reader.words()))
        # Too many words comes first, also where the word is not possible.
        self.unchanged(reader, TooManyWords, "four")
        reader.pop()
        reader.pop()
        reader.push("four")
        self.unchanged(reader, NotPossible, "four")

    def test_no_word(self):
        reader = Reader(ALL)
        for _ in range(2):
            with self.assertRaises(NoWord):
                reader.pop()
            self.assertEqual((reader.words(), reader.bounds()), ((), (1, None, ())))
        reader.push("two")
        reader.pop()
        with self.assertRaises(NoWord):
            reader.pop()
        self.assertEqual(reader.push("two"), (2, None, (2,)))


class Apart(unittest.TestCase):
    def test_two_readers(self):
        first = Reader(ALL)
        second = Reader(ALL)
        first.push("two")
        self.assertEqual((second.words(), second.meanings()), ((), ()))
        second.push("three")
        second.push("five")
        first.push("hundred")
        self.assertEqual((first.words(), first.meanings()), (("two", "hundred"), (200,)))
        self.assertEqual((second.words(), second.meanings()), (("three", "five"), (15,)))
        second.pop()
        self.assertIs(second.allows(300), True)
        self.assertIs(first.allows(300), False)
        self.assertEqual(first.words(), ("two", "hundred"))

    def test_the_system_stays(self):
        read(ALL, ("two", "hundred", "five"))
        self.assertEqual(ALL.simple, tuple(SIMPLE))
        self.assertEqual(ALL.multipliers, (FIVE, HUNDRED))


if __name__ == "__main__":
    unittest.main()

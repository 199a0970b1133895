"""What holds over the whole program, the parts held against one another: [0.2], [D5], [E1], [G4], [I4]."""

import itertools
import random
import unittest

from sayonce.ambiguity import conflict, is_ambiguous
from sayonce.comparison import conflict_counts, false_friend, interpret, translate
from sayonce.conflicts import conflicts, first_conflict
from sayonce.counting import Counting, words_said
from sayonce.coverage import certificate, first_double, first_gap, is_certificate, sayable_count
from sayonce.derivations import derivation_count, index_of, phrase_at, phrases_of
from sayonce.editor import Editor, replayed
from sayonce.phrases import error_index, trees, values
from sayonce.reader import Reader
from sayonce.systems import System
from sayonce.texts import read_system, write_system
from sayonce.ways import Chart
from tests.reference import small_pair, small_system


def short_phrases(system, most):
    for length in range(1, most + 1):
        yield from itertools.product(system.words(), repeat=length)


def last_to_look_at(system):
    """A number beyond the bound of [E1]."""
    row = system.endless()
    value = 1 if row is None else row[1]
    return max(system.bounded_maximum(), value) + 3 * value


class OneSystem(unittest.TestCase):
    def test_phrases_and_conflicts(self):
        """[0.2], [D5]: no phrase means two numbers exactly if no pair of multipliers conflicts."""
        chance = random.Random(61)
        seen = {True: 0, False: 0}
        for _ in range(120):
            system = small_system(chance)
            found = conflict(system)
            longest = 5 if len(system.words()) < 5 else 3
            doubtful = [phrase for phrase in short_phrases(system, longest) if len(values(system, phrase)) > 1]
            for phrase in short_phrases(system, longest):
                self.assertIs(is_ambiguous(system, phrase), len(values(system, phrase)) > 1)
            seen[found is not None] += 1
            if found is None:
                self.assertEqual(doubtful, [])
            else:
                self.assertIn(found[5][0], values(system, found[4]))
                self.assertIn(found[5][1], values(system, found[4]))
                self.assertTrue(is_ambiguous(system, found[4]))
                self.assertTrue(doubtful or len(found[4]) > longest)
            # A system is held against itself as against another one.
            self.assertEqual(first_conflict(system, system), None if found is None else found[:4])
            friend = None if found is None else ("forward", found[:4], found[4], found[5])
            self.assertEqual(false_friend(system, system), friend)
            self.assertEqual(Editor(system).check()[0], None if found is None else found[:2])
        self.assertGreater(min(seen.values()), 10)

    def test_phrases_of_numbers_mean_them(self):
        chance = random.Random(62)
        for _ in range(60):
            system = small_system(chance)
            unambiguous = conflict(system) is None
            editor = Editor(system)
            for number in range(1, 60):
                for index, phrase in enumerate(phrases_of(system, number, most=4)):
                    numbers = interpret(system, system, phrase)
                    self.assertIn(number, numbers)
                    self.assertEqual(index_of(system, number, phrase) == 0, editor.grade(number, phrase)[0] == "first")
                    if unambiguous:
                        self.assertEqual(numbers, (number,))
                        self.assertEqual(translate(system, system, phrase), ((number, phrase_at(system, number, 0)),))

    def test_gaps_and_derivations(self):
        """[E1]: every number is said exactly if every one up to the bound is, and so for two ways."""
        chance = random.Random(63)
        seen = {"gap": 0, "no gap": 0, "double": 0, "no double": 0}
        for _ in range(250):
            system = small_system(chance)
            if chance.random() < 0.5:
                # Systems without gaps are rare otherwise.
                rows = [row[:3] + (True, row[1] - 1) for row in system.multipliers]
                system = System([(word, at + 1) for at, word in enumerate("abcd")], rows)
            many = [derivation_count(system, number) for number in range(1, last_to_look_at(system) + 1)]
            gap = next((at + 1 for at, count in enumerate(many) if count == 0), None)
            double = next((at + 1 for at, count in enumerate(many) if count > 1), None)
            self.assertEqual((first_gap(system), first_double(system)), (gap, double))
            self.assertEqual(Editor(system).check()[1:], (gap, double))
            self.check_gap(system, gap, chance)
            for _ in range(20):
                number = chance.randint(1, 10 ** 30)
                count = derivation_count(system, number)
                self.assertTrue(gap is not None or count > 0)
                self.assertTrue(double is not None or count < 2)
            seen["gap" if gap else "no gap"] += 1
            seen["double" if double else "no double"] += 1
        self.assertGreater(min(seen.values()), 20)

    def check_gap(self, system, gap, chance):
        steps = certificate(system)
        self.assertEqual(gap is None, steps is not None)
        if gap is None:
            self.assertTrue(is_certificate(system, steps))
            last = 10 ** chance.randint(1, 40)
            self.assertEqual(sayable_count(system, 1, last), last)
            return
        counting = Counting(system, 1)
        for _ in range(gap):
            counting.say()
        self.assertEqual(counting.number, gap)
        self.assertIsNone(counting.say())
        self.assertEqual(sayable_count(system, 1, gap), gap - 1)
        self.assertEqual(words_said(system, gap, gap), 0)
        self.assertFalse(Reader(system).allows(gap))

    def test_reading_and_phrases(self):
        chance = random.Random(64)
        for _ in range(60):
            system = small_system(chance)
            for phrase in short_phrases(system, 2):
                wrong = error_index(system, phrase)
                reader = Reader(system)
                for word in phrase[:wrong]:
                    reader.push(word)
                if wrong is None:
                    self.assertEqual(reader.meanings(), values(system, phrase))
                    self.assertEqual(reader.bounds()[0], values(system, phrase)[0])
                    self.assertGreaterEqual(len(trees(system, phrase)), len(values(system, phrase)))
                    self.assertTrue(all([reader.allows(number) for number in values(system, phrase)]))
                else:
                    self.assertEqual(Editor(system).grade(1, phrase), ("invalid", None))


class TwoSystems(unittest.TestCase):
    def differing(self, first, second, longest):
        """A phrase of up to so many words that means one number in the one and another one in the other, or None."""
        words = [word for word in first.words() if word in second.words()]
        charts = (Chart(first, None), Chart(second, None))
        phrase = []

        def look():
            for word in words:
                phrase.append(word)
                for chart in charts:
                    chart.read(word)
                found = [chart.numbers(0, len(phrase)) for chart in charts]
                if all(found):
                    if len(set(found[0] + found[1])) > 1:
                        return tuple(phrase)
                    if len(phrase) < longest:
                        told = look()
                        if told is not None:
                            return told
                phrase.pop()
                for chart in charts:
                    chart.unread()
            return None

        return look()

    def test_phrases_and_conflicts(self):
        """[0.2], [G4]: a phrase tells two systems apart exactly if there is a conflict."""
        chance = random.Random(65)
        seen = {True: 0, False: 0}
        for _ in range(500):
            first, second = small_pair(chance)
            found = false_friend(first, second)
            longest = 5 if len(first.words()) < 6 else 4
            phrase = self.differing(first, second, longest)
            self.assertEqual(found is None, conflict_counts(first, second) == (0, 0))
            self.assertEqual(found is None, conflicts(first, second) + conflicts(second, first) == ())
            self.assertEqual(found is None, false_friend(second, first) is None)
            if found is None:
                self.assertIsNone(phrase, (first.simple, first.multipliers, second.simple, second.multipliers))
            else:
                self.assertTrue(phrase is not None or len(found[2]) > longest)
                self.assertIn(found[3][0], interpret(second, first, found[2]))
                self.assertIn(found[3][1], interpret(first, second, found[2]))
                self.assertNotEqual(found[3][0], found[3][1])
            if phrase is not None:
                self.assertGreater(len(set(interpret(first, first, phrase) + interpret(first, second, phrase))), 1)
            seen[found is None] += 1
        self.assertGreater(min(seen.values()), 50)


class Edited(unittest.TestCase):
    def test_present_system(self):
        """[I4]: an editor tells of its present system, whatever was done before."""
        chance = random.Random(66)
        for _ in range(60):
            begun, wanted = small_system(chance), small_system(chance)
            editor = Editor(begun)
            for word in begun.words():
                editor.remove(word)
            for row in wanted.multipliers:
                editor.set_multiplier(*row)
                editor.undo()
                editor.redo()
            for row in wanted.simple:
                editor.set_simple(*row)
            self.assertEqual((editor.system().simple, editor.system().multipliers), (wanted.simple, wanted.multipliers))
            self.check_editor(editor, wanted)
            many = len(editor.journal())
            for _ in range(many):
                editor.undo()
            self.check_editor(editor, begun)
            for _ in range(many):
                editor.redo()
            self.check_editor(editor, wanted)
            self.check_editor(replayed(begun, editor.journal()), wanted)
            self.check_editor(Editor(read_system(write_system(editor.system()))), wanted)

    def check_editor(self, editor, system):
        found = conflict(system)
        words = None if found is None else found[:2]
        self.assertEqual(editor.check(), (words, first_gap(system), first_double(system)))
        for number in range(1, 30):
            phrases = phrases_of(system, number, most=3)
            for index, phrase in enumerate(phrases):
                grade = "first" if phrase == phrases[0] else "alternative"
                self.assertEqual(editor.grade(number, phrase), (grade, number))
        for phrase in short_phrases(system, 2):
            numbers = values(system, phrase)
            told = editor.grade(10 ** 9, phrase)
            self.assertIn(told[0], ("wrong", "alternative", "first") if numbers else ("invalid",))
            if told[0] == "wrong":
                self.assertEqual(told[1], numbers[0])


if __name__ == "__main__":
    unittest.main()

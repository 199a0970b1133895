"""The editor: [I1] to [I4]."""

import random
import unittest

from sayonce.derivations import index_of, phrase_at
from sayonce.editor import Editor, EditorError, NothingLeft, NotThere, OtherKind, replayed
from sayonce.errors import SayError
from sayonce.phrases import values
from sayonce.systems import BadSystem, System
from tests.reference import conflicts, parses, small_system, trees

DIGITS = [("a", 1), ("b", 2), ("c", 3), ("d", 4)]
EXAMPLE = System(DIGITS, [("f", 5, 4, True, 4), ("t", 25, None, True, 24)])
EMPTY = System([], [])


def rows(editor):
    return editor.system().simple, editor.system().multipliers


class Changes(unittest.TestCase):
    def test_set_simple(self):
        editor = Editor(EXAMPLE)
        self.assertEqual(editor.set_simple("e", 6), 7)
        self.assertEqual(rows(editor), (tuple(DIGITS) + (("e", 6),), EXAMPLE.multipliers))
        # A word that is set anew keeps its place.
        self.assertEqual(editor.set_simple("b", 9), 7)
        self.assertEqual(editor.system().simple, (("a", 1), ("b", 9), ("c", 3), ("d", 4), ("e", 6)))
        self.assertEqual(EXAMPLE.simple, tuple(DIGITS))

    def test_set_multiplier(self):
        editor = Editor(EXAMPLE)
        self.assertEqual(editor.set_multiplier("g", 7, 3, False, 6), 7)
        self.assertEqual(editor.system().multipliers, EXAMPLE.multipliers + (("g", 7, 3, False, 6),))
        self.assertEqual(editor.set_multiplier("f", 6, 5, False, 0), 7)
        self.assertEqual(editor.system().multipliers[0], ("f", 6, 5, False, 0))
        self.assertEqual(editor.set_multiplier("t", 25, 3, True, 24), 7)
        self.assertEqual(editor.set_multiplier("g", 7, None, False, 6), 7)
        expected = (("f", 6, 5, False, 0), ("t", 25, 3, True, 24), ("g", 7, None, False, 6))
        self.assertEqual(rows(editor), (tuple(DIGITS), expected))

    def test_remove(self):
        editor = Editor(EXAMPLE)
        self.assertEqual(editor.remove("b"), 5)
        self.assertEqual(editor.remove("f"), 4)
        self.assertEqual(rows(editor), ((("a", 1), ("c", 3), ("d", 4)), EXAMPLE.multipliers[1:]))
        # Taken away and set again, a word stands behind; and it can be of the other kind then.
        self.assertEqual(editor.set_simple("b", 2), 5)
        self.assertEqual(editor.system().simple[-1], ("b", 2))
        self.assertEqual(editor.set_simple("f", 5), 6)
        self.assertEqual(editor.remove("a"), 5)
        self.assertEqual(editor.set_multiplier("a", 9, 2, True, 3), 6)
        self.assertEqual(editor.system().multipliers, (EXAMPLE.multipliers[1], ("a", 9, 2, True, 3)))

    def test_from_nothing(self):
        editor = Editor(EMPTY)
        self.assertEqual((editor.set_simple("a", 1), editor.set_multiplier("f", 5, None, True, 4)), (1, 2))
        self.assertEqual((editor.remove("a"), editor.remove("f")), (1, 0))
        self.assertEqual(rows(editor), ((), ()))
        self.assertEqual((editor.undo(), editor.undo(), editor.undo(), editor.undo()), (1, 2, 1, 0))
        self.assertEqual(len(editor.journal()), 0)

    def test_journal(self):
        editor = Editor(EXAMPLE)
        self.assertEqual(editor.journal(), ())
        editor.set_simple("a", 1)
        editor.set_multiplier("t", 25, None, True, 24)
        editor.set_multiplier("f", 5, 3, False, 4)
        editor.remove("c")
        expected = (
            ("set_simple", "a", 1), ("set_multiplier", "t", 25, None, True, 24), ("set_multiplier", "f", 5, 3, False, 4),
            ("remove", "c"),
        )
        self.assertEqual(editor.journal(), expected)
        editor.undo()
        editor.undo()
        self.assertEqual(editor.journal(), expected[:2])
        editor.redo()
        self.assertEqual(editor.journal(), expected[:3])
        editor.set_simple("c", 7)
        self.assertEqual(editor.journal(), expected[:3] + (("set_simple", "c", 7),))

    def test_changes_that_leave_the_system_as_it_was(self):
        editor = Editor(EXAMPLE)
        editor.set_simple("a", 1)
        editor.set_simple("e", 9)
        editor.undo()
        self.assertEqual(editor.set_multiplier("f", 5, 4, True, 4), 6)
        self.assertEqual(editor.journal(), (("set_simple", "a", 1), ("set_multiplier", "f", 5, 4, True, 4)))
        with self.assertRaises(NothingLeft):
            editor.redo()
        self.assertEqual((editor.undo(), editor.undo()), (6, 6))
        with self.assertRaises(NothingLeft):
            editor.undo()

    def test_two_editors_of_one_system(self):
        one, other = Editor(EXAMPLE), Editor(EXAMPLE)
        one.remove("a")
        self.assertEqual(rows(other), (EXAMPLE.simple, EXAMPLE.multipliers))
        self.assertEqual(other.journal(), ())


class UndoAndRedo(unittest.TestCase):
    def test_back_and_forth(self):
        editor = Editor(EXAMPLE)
        steps = [rows(editor)]
        for change in (("e", 6), ("e", 7), ("g", 8)):
            editor.set_simple(*change)
            steps.append(rows(editor))
        editor.remove("f")
        steps.append(rows(editor))
        self.assertEqual([editor.undo(), rows(editor)], [8, steps[3]])
        self.assertEqual([editor.undo(), rows(editor)], [7, steps[2]])
        self.assertEqual([editor.redo(), rows(editor)], [8, steps[3]])
        self.assertEqual([editor.redo(), rows(editor)], [7, steps[4]])
        self.assertEqual([editor.undo() for _ in range(4)], [8, 7, 7, 6])
        self.assertEqual(rows(editor), steps[0])
        self.assertEqual([editor.redo() for _ in range(4)], [7, 7, 8, 7])
        self.assertEqual(rows(editor), steps[4])

    def test_a_change_takes_away_what_could_be_done_again(self):
        for change in (("set_simple", "g", 8), ("remove", "d"), ("set_multiplier", "f", 5, 4, True, 4)):
            editor = Editor(EXAMPLE)
            editor.set_simple("e", 6)
            editor.set_simple("e", 7)
            editor.undo()
            getattr(editor, change[0])(*change[1:])
            with self.assertRaises(NothingLeft):
                editor.redo()
            self.assertEqual(editor.journal(), (("set_simple", "e", 6), change))
            editor.undo()
            self.assertEqual(editor.system().simple[-1], ("e", 6))
            editor.redo()
            self.assertEqual(editor.journal()[-1], change)

    def test_undo_and_redo_are_no_changes(self):
        editor = Editor(EXAMPLE)
        editor.set_simple("e", 6)
        editor.undo()
        self.assertEqual(editor.journal(), ())
        editor.redo()
        self.assertEqual(editor.journal(), (("set_simple", "e", 6),))
        with self.assertRaises(NothingLeft):
            editor.redo()
        # An undo is not undone.
        editor.undo()
        with self.assertRaises(NothingLeft):
            editor.undo()

    def test_nothing_left(self):
        editor = Editor(EXAMPLE)
        for step in (editor.undo, editor.redo, editor.undo):
            with self.assertRaises(NothingLeft) as caught:
                step()
            self.assertIsNone(caught.exception.word)
        self.assertEqual(rows(editor), (EXAMPLE.simple, EXAMPLE.multipliers))


class WrongChanges(unittest.TestCase):
    def setUp(self):
        self.editor = Editor(EXAMPLE)
        self.editor.set_simple("e", 9)
        self.editor.set_multiplier("g", 7, 3, False, 6)
        self.editor.set_simple("b", 5)
        self.editor.remove("a")
        self.editor.undo()
        self.editor.undo()
        self.before = (rows(self.editor), self.editor.journal())

    def tearDown(self):
        # Nothing was changed, not what can be redone, either.
        self.assertEqual((rows(self.editor), self.editor.journal()), self.before)
        self.assertEqual((self.editor.redo(), self.editor.redo()), (8, 7))
        self.assertEqual(self.editor.journal()[2:], (("set_simple", "b", 5), ("remove", "a")))

    def raises(self, error, word, call, *arguments):
        with self.assertRaises(error) as caught:
            call(*arguments)
        self.assertEqual(caught.exception.word, word)

    def bad(self, told, call, *arguments):
        with self.assertRaises(BadSystem) as caught:
            call(*arguments)
        error = caught.exception
        self.assertEqual((error.part, error.number, error.reason), told)

    def test_kinds_of_errors(self):
        self.assertEqual(EditorError.__bases__, (SayError,))
        for error in (OtherKind, NotThere, NothingLeft):
            self.assertEqual(error.__bases__, (EditorError,))

    def test_other_kind(self):
        self.raises(OtherKind, "f", self.editor.set_simple, "f", 5)
        self.raises(OtherKind, "g", self.editor.set_simple, "g", 1)
        self.raises(OtherKind, "a", self.editor.set_multiplier, "a", 5, 4, True, 4)
        self.raises(OtherKind, "e", self.editor.set_multiplier, "e", 9, None, True, 8)
        # Ahead of BadSystem.
        self.raises(OtherKind, "t", self.editor.set_simple, "t", 0)
        self.raises(OtherKind, "d", self.editor.set_multiplier, "d", 0, 0, True, 9)

    def test_not_there(self):
        for word in ("q", "", "A", "ab"):
            self.raises(NotThere, word, self.editor.remove, word)

    def test_bad_simple_words(self):
        for word, value, told in (
            ("e", 0, ("simple", 4, "value")), ("q", 100001, ("simple", 5, "value")), ("b", -1, ("simple", 1, "value")),
            ("", 5, ("simple", 5, "word")), ("Q", 0, ("simple", 5, "word")), ("abcdefghi", 5, ("simple", 5, "word")),
        ):
            self.bad(told, self.editor.set_simple, word, value)

    def test_bad_multipliers(self):
        for row, told in (
            (("f", 1, 4, True, 0), ("multipliers", 0, "value")), (("g", 7, 0, True, 0), ("multipliers", 2, "count")),
            (("q", 7, 3, True, 7), ("multipliers", 3, "rest")), (("q", 7, 20000, True, 6), ("multipliers", 3, "large")),
            (("f", 5, 20000, True, 1), ("multipliers", 0, "large")), (("q r", 7, 3, True, 0), ("multipliers", 3, "word")),
            # The second endless one of the system as it would be.
            (("f", 5, None, True, 4), ("multipliers", 1, "endless")), (("q", 9, None, True, 4), ("multipliers", 3, "endless")),
        ):
            self.bad(told, self.editor.set_multiplier, *row)

    def test_too_many(self):
        words = [(word, 1) for word in "abcdefghijklmnopqrstuvwx"]
        full = System(words, [(word * 2, 9, 1, True, 0) for word in "abcdef"])
        editor = Editor(full)
        self.bad(("simple", None, "many"), editor.set_simple, "y", 1)
        self.bad(("simple", None, "many"), editor.set_simple, "", 0)
        self.bad(("multipliers", None, "many"), editor.set_multiplier, "y", 9, 1, True, 0)
        self.assertEqual(editor.set_simple("x", 7), 30)
        self.assertEqual(editor.set_multiplier("ff", 9, None, True, 0), 30)
        self.assertEqual(editor.remove("a"), 29)
        self.assertEqual(editor.set_simple("y", 1), 30)


class Replayed(unittest.TestCase):
    def test_ordinary(self):
        commands = (("set_simple", "e", 6), ("remove", "a"), ("set_multiplier", "f", 5, None, True, 4))
        with self.assertRaises(BadSystem):
            replayed(EXAMPLE, commands)
        commands = (("set_simple", "e", 6), ("remove", "t"), ("set_multiplier", "f", 5, None, True, 4))
        for told in (commands, list(commands), [list(command) for command in commands]):
            editor = replayed(EXAMPLE, told)
            self.assertIsInstance(editor, Editor)
            self.assertEqual(editor.journal(), commands)
            for entry in (editor.journal(),) + editor.journal():
                self.assertIsInstance(entry, tuple)
            self.assertEqual(rows(editor), (tuple(DIGITS) + (("e", 6),), (("f", 5, None, True, 4),)))
            self.assertEqual([editor.undo(), editor.undo(), editor.undo()], [6, 7, 6])
            self.assertEqual([editor.redo(), editor.redo(), editor.redo()], [7, 6, 6])

    def test_nothing(self):
        for commands in ((), []):
            editor = replayed(EXAMPLE, commands)
            self.assertEqual((rows(editor), editor.journal()), ((EXAMPLE.simple, EXAMPLE.multipliers), ()))
            with self.assertRaises(NothingLeft):
                editor.undo()

    def test_arguments_stay(self):
        commands = [["set_simple", "e", 6], ["remove", "t"], ["set_multiplier", "f", 5, None, True, 4]]
        replayed(EXAMPLE, commands).set_simple("g", 1)
        self.assertEqual(commands, [["set_simple", "e", 6], ["remove", "t"], ["set_multiplier", "f", 5, None, True, 4]])
        self.assertEqual(EXAMPLE.simple, tuple(DIGITS))

    def test_errors(self):
        for commands, error in (
            ([("remove", "q")], NotThere), ([("set_simple", "f", 1)], OtherKind), ([("remove", "a"), ["remove", "a"]], NotThere),
            ([("set_multiplier", "a", 5, 1, True, 0)], OtherKind), ([("set_simple", "a", 0)], BadSystem),
        ):
            with self.assertRaises(error):
                replayed(EXAMPLE, commands)


class Grades(unittest.TestCase):
    def test_document(self):
        editor = Editor(EXAMPLE)
        self.assertEqual(editor.check(), (None, None, None))
        editor.set_multiplier("f", 5, 30, True, 4)
        self.assertEqual(editor.check(), (("t", "f"), None, 25))
        self.assertEqual(editor.grade(30, ("t", "f")), ("alternative", 30))

    def test_all_grades(self):
        editor = Editor(System(DIGITS, [("f", 5, 30, True, 4), ("t", 25, None, True, 24)]))
        self.assertEqual(editor.grade(30, ("f", "a", "f")), ("first", 30))
        self.assertEqual(editor.grade(125, ["t", "f"]), ("alternative", 125))
        self.assertEqual(editor.grade(7, ("t", "f")), ("wrong", 30))
        self.assertEqual(editor.grade(126, ("t", "f")), ("wrong", 30))
        self.assertEqual(editor.grade(4, ["d"]), ("first", 4))
        self.assertEqual(editor.grade(4, ["c"]), ("wrong", 3))
        for phrase in ((), [], ("a", "a"), ("a", "f"), ("t", "a", "b"), ("q",), ("t", "Q"), ("",), ["f", "q", "a"]):
            self.assertEqual(editor.grade(5, phrase), ("invalid", None))

    def test_two_words_for_one_number(self):
        editor = Editor(System([("b", 2), ("two", 2)], [("f", 5, 4, True, 4)]))
        self.assertEqual(editor.grade(12, ("b", "f", "b")), ("first", 12))
        for phrase in (("b", "f", "two"), ("two", "f", "b"), ("two", "f", "two")):
            self.assertEqual(editor.grade(12, phrase), ("alternative", 12))
        editor.set_simple("b", 1)
        self.assertEqual(editor.grade(12, ("two", "f", "two")), ("first", 12))
        self.assertEqual(editor.grade(12, ("two", "f", "b")), ("wrong", 11))
        self.assertEqual(editor.grade(12, ("b", "f", "b")), ("invalid", None))

    def test_numbers_that_are_not_said(self):
        editor = Editor(System([("b", 2)], [("f", 5, 4, True, 4)]))
        self.assertEqual(editor.grade(1, ("b",)), ("wrong", 2))
        self.assertEqual(editor.grade(10 ** 90, ("b",)), ("wrong", 2))
        self.assertEqual(editor.grade(10 ** 90, ("a",)), ("invalid", None))
        self.assertEqual(Editor(EMPTY).grade(1, ()), ("invalid", None))
        self.assertEqual(Editor(EMPTY).grade(1, ("a",)), ("invalid", None))

    def test_long_phrases(self):
        editor = Editor(EXAMPLE)
        for many in (24, 25, 300, 3000):
            phrase = ("t",) * many
            self.assertEqual(editor.grade(25 ** many, phrase), ("first", 25 ** many))
            self.assertEqual(editor.grade(25 ** many + 1, phrase), ("wrong", 25 ** many))
            self.assertEqual(editor.grade(25 ** many + 1, list(phrase) + ["a"]), ("first", 25 ** many + 1))
            self.assertEqual(editor.grade(7, phrase + ("a", "a")), ("invalid", None))
            self.assertEqual(editor.grade(7, phrase + ("a", "q")), ("invalid", None))
        phrase = ("c", "f", "b", "t", "d") * 2
        self.assertEqual(editor.grade(9, phrase), ("invalid", None))

    def test_long_phrases_with_rests(self):
        editor = Editor(EXAMPLE)
        number = 1
        phrase = []
        for at in range(2000):
            number = number * 25 + at % 5
            phrase.extend(["t"] + (["abcd"[at % 5 - 1]] if at % 5 else []))
        self.assertEqual(editor.grade(number, phrase), ("first", number))
        self.assertEqual(editor.grade(number + 5, phrase), ("wrong", number))
        self.assertEqual(editor.grade(1, phrase), ("wrong", number))
        self.assertEqual(editor.grade(1, ("c", "t", "f", "a", "t", "b")), ("wrong", (3 * 25 + 6) * 25 + 2))

    def test_numbers_about_the_greatest_value(self):
        editor = Editor(System([("x", 100000), ("y", 99999)], [("t", 100000, None, True, 99999), ("f", 2, 50000, True, 0)]))
        for phrase, number in (
            (("x",), 100000), (("y",), 99999), (("t",), 100000), (("t", "y"), 199999), (("y", "t"), 9999900000),
            (("x", "t"), 10 ** 10), (("x", "t", "y"), 10 ** 10 + 99999), (("f", "t", "y"), 299999),
        ):
            self.assertEqual(editor.grade(1, phrase), ("wrong", number))
            self.assertEqual(editor.grade(number, phrase)[1], number)

    def test_long_phrases_that_mean_two_numbers(self):
        editor = Editor(System(DIGITS, [("f", 5, 30, True, 4), ("h", 25, 3, True, 24), ("t", 1000, None, True, 999)]))
        phrase = ("b", "h", "f", "t") + ("h", "f", "t") * 500 + ("h", "f")
        number = 55
        great = 55
        for _ in range(500):
            number = number * 1000 + 30
            great = great * 1000 + 125
        number = number * 1000 + 30
        great = great * 1000 + 125
        self.assertEqual(editor.grade(1, phrase), ("wrong", number))
        self.assertEqual(editor.grade(number, phrase), ("alternative", number))
        self.assertEqual(editor.grade(great, phrase), ("alternative", great))
        self.assertEqual(editor.grade(great + 1, phrase), ("wrong", number))

    def test_as_defined(self):
        chance = random.Random(51)
        seen = {}
        for _ in range(60):
            system = small_system(chance)
            editor = Editor(system)
            phrases = [tuple([chance.choice(system.words() + ("q",)) for _ in range(chance.randint(1, 4))]) for _ in range(30)]
            known = {}
            for number in range(1, 40):
                said = trees(system, number, known)
                for phrase in phrases + said[:3]:
                    means = [value for value, _ in parses(system, phrase)]
                    expected = ("invalid", None)
                    if phrase in said:
                        expected = ("first" if said[0] == phrase else "alternative", number)
                    elif means:
                        expected = ("wrong", min(means))
                    self.assertEqual(editor.grade(number, phrase), expected)
                    seen[expected[0]] = seen.get(expected[0], 0) + 1
        self.assertGreater(min([seen[grade] for grade in ("first", "alternative", "wrong", "invalid")]), 20)

    def test_as_the_other_parts_tell(self):
        chance = random.Random(52)
        for _ in range(200):
            system = small_system(chance)
            if not system.words():
                continue
            editor = Editor(system)
            number = chance.randint(1, 10 ** chance.randint(1, 30))
            phrase = phrase_at(system, number, 0)
            if phrase is not None:
                self.assertEqual(editor.grade(number, phrase), ("first", number))
            phrase = tuple([chance.choice(system.words()) for _ in range(chance.randint(1, 6))])
            found = values(system, phrase)
            expected = ("wrong", found[0]) if found else ("invalid", None)
            index = index_of(system, number, phrase)
            if index is not None:
                expected = ("alternative" if index else "first", number)
            self.assertEqual(editor.grade(number, phrase), expected)

    def test_arguments_stay(self):
        phrase = ["t", "f"]
        Editor(EXAMPLE).grade(30, phrase)
        self.assertEqual(phrase, ["t", "f"])


class Histories(unittest.TestCase):
    """[I4]: whatever was done before, what is told is about the present system."""

    def model(self, simple, multipliers, command):
        """[I1]: the rows behind a change."""
        name, word = command[:2]
        if name == "remove":
            return [row for row in simple if row[0] != word], [row for row in multipliers if row[0] != word]
        changed = [list(simple), list(multipliers)]
        kind = changed[0 if name == "set_simple" else 1]
        places = [at for at, row in enumerate(kind) if row[0] == word]
        if places:
            kind[places[0]] = command[1:]
        else:
            kind.append(command[1:])
        return tuple(changed)

    def any_command(self, chance):
        name = chance.choice(["set_simple", "set_multiplier", "remove"])
        if name == "set_simple":
            return name, chance.choice("abcdu"), chance.randint(0, 9)
        if name == "remove":
            return name, chance.choice("abcduvw")
        count = chance.choice([None, 1, 4, 9])
        return name, chance.choice("uvwxa"), chance.randint(1, 9), count, chance.random() < 0.6, chance.randint(0, 5)

    def expected_error(self, present, command):
        name, word = command[:2]
        words = [[row[0] for row in kind] for kind in present]
        if name == "remove":
            return None if word in words[0] + words[1] else NotThere
        if word in words[1 if name == "set_simple" else 0]:
            return OtherKind
        try:
            System(*self.model(present[0], present[1], command))
        except BadSystem:
            return BadSystem
        return None

    def test_random_histories(self):
        chance = random.Random(53)
        met = {}
        for _ in range(40):
            begun = small_system(chance)
            editor = Editor(begun)
            systems, entries, at = [(list(begun.simple), list(begun.multipliers))], [], 0
            for _ in range(60):
                step = chance.choice(["change", "change", "undo", "redo"])
                before = (rows(editor), editor.journal())
                if step == "change":
                    command = self.any_command(chance)
                    error = self.expected_error(systems[at], command)
                    call = lambda: getattr(editor, command[0])(*command[1:])
                    if error is None:
                        systems[at + 1:] = [self.model(systems[at][0], systems[at][1], command)]
                        entries[at:] = [command]
                        at += 1
                else:
                    error = NothingLeft if at == (0 if step == "undo" else len(entries)) else None
                    call = editor.undo if step == "undo" else editor.redo
                    if error is None:
                        at += 1 if step == "redo" else -1
                met[error] = met.get(error, 0) + 1
                if error is None:
                    self.assertEqual(call(), len(systems[at][0]) + len(systems[at][1]))
                else:
                    with self.assertRaises(error):
                        call()
                    self.assertEqual((rows(editor), editor.journal()), before)
                self.assertEqual(rows(editor), (tuple(systems[at][0]), tuple(systems[at][1])))
                self.assertEqual(editor.journal(), tuple(entries[:at]))
            self.check_present(editor, begun, chance)
        self.assertGreater(min([met[error] for error in (None, NotThere, OtherKind, BadSystem, NothingLeft)]), 20)

    def check_present(self, editor, begun, chance):
        simple, multipliers = rows(editor)
        fresh = Editor(System(simple, multipliers))
        again = replayed(begun, editor.journal())
        self.assertEqual(rows(again), rows(editor))
        self.assertEqual(editor.check(), fresh.check())
        self.assertEqual(again.check(), fresh.check())
        self.check_told(editor.system(), editor.check())
        for _ in range(20):
            number = chance.randint(1, 60)
            phrase = [chance.choice("abcduvwx") for _ in range(chance.randint(0, 4))]
            self.assertEqual(editor.grade(number, phrase), fresh.grade(number, phrase))

    def check_told(self, system, told):
        every = conflicts(system.simple, system.multipliers, 12)
        self.assertEqual(told[0], every[0][:2] if every else None)
        known = {}
        many = [len(trees(system, number, known)) for number in range(1, 131)]
        gaps = [at + 1 for at, count in enumerate(many) if count == 0]
        doubles = [at + 1 for at, count in enumerate(many) if count > 1]
        self.assertEqual(told[1], gaps[0] if gaps else None)
        self.assertEqual(told[2], doubles[0] if doubles else None)

    def test_check_there_and_back(self):
        editor = Editor(EXAMPLE)
        editor.set_multiplier("f", 5, 30, True, 4)
        editor.remove("d")
        self.assertEqual(editor.check(), (("t", "f"), 4, 25))
        editor.undo()
        self.assertEqual(editor.check(), (("t", "f"), None, 25))
        editor.undo()
        self.assertEqual(editor.check(), (None, None, None))
        self.assertEqual(editor.grade(30, ("t", "f")), ("first", 30))
        editor.redo()
        self.assertEqual(editor.grade(30, ("t", "f")), ("alternative", 30))
        self.assertEqual(editor.check(), (("t", "f"), None, 25))


if __name__ == "__main__":
    unittest.main()

"""The form of the package: the interface of the document, and those rules of LANGUAGE.md that are quick to see."""

import ast
import inspect
import os
import unittest

import sayonce
from sayonce import (
    ambiguity, comparison, conflicts, counting, coverage, derivations, editor, errors, phrases, reader, systems, texts,
)

FOLDER = os.path.dirname(os.path.abspath(sayonce.__file__))

BUILTINS = (
    "len range enumerate zip min max sum abs sorted reversed int str bool list tuple dict set isinstance ord repr "
    "any all divmod Exception ValueError TypeError KeyError IndexError LookupError ZeroDivisionError"
).split()

# The methods of builtin values that L25 lists first.
BUILTIN_METHODS = (
    "append clear copy count endswith extend find get index insert isalnum isalpha isdigit islower isspace isupper items "
    "join keys ljust lower lstrip partition pop remove replace reverse rfind rjust rpartition rsplit rstrip setdefault "
    "split splitlines startswith strip update upper values zfill bit_length"
).split()

# L17, L2 and the like: words that no code has.
BARRED = (
    "register mro elements open input law version_info with_traceback add_note type typing enum Enum dataclass namedtuple "
    "compile dir eval exec exit gc globals help id locals os quit super vars sys copyright license global async await lambda"
).split()

METHODS = {
    systems.System: {
        "words": "(self)", "simple_value": "(self, word)", "multiplier": "(self, word)", "endless": "(self)",
        "bounded_maximum": "(self)",
    },
    reader.Reader: {
        "bounds": "(self)", "push": "(self, word)", "pop": "(self)", "allows": "(self, value)", "words": "(self)",
        "meanings": "(self)",
    },
    counting.Counting: {"say": "(self)"},
    editor.Editor: {
        "system": "(self)", "journal": "(self)", "set_simple": "(self, word, value)",
        "set_multiplier": "(self, word, value, count, unsaid, rest)", "remove": "(self, word)", "undo": "(self)",
        "redo": "(self)", "grade": "(self, number, phrase)", "check": "(self)",
    },
}

CALLS = {
    systems: {
        "BadSystem": "(part, number, reason)", "System": "(simple, multipliers)", "is_word": "(text)",
        "is_spoken": "(row, count)",
    },
    texts: {"BadText": "(position)", "read_system": "(text)", "write_system": "(system)"},
    derivations: {
        "UnknownWord": "(number)", "derivation_count": "(system, number)", "phrase_at": "(system, number, index)",
        "index_of": "(system, number, phrase)", "shortest_phrase": "(system, number)",
        "phrases_of": "(system, number, *, most=100)",
    },
    phrases: {
        "values": "(system, phrase)", "trees": "(system, phrase)", "error_index": "(system, phrase)",
        "next_words": "(system, phrase)",
    },
    ambiguity: {
        "conflict": "(system)", "middles": "(system, first, second)", "is_ambiguous": "(system, phrase)",
        "max_count": "(system, word)", "max_rest": "(system, word)",
    },
    coverage: {
        "first_gap": "(system)", "first_double": "(system)", "sayable_count": "(system, start, stop)",
        "certificate": "(system)", "is_certificate": "(system, steps)",
    },
    reader: {"Reader": "(system)"},
    conflicts: {
        "Mismatch": "(word)", "mismatch": "(first, second)", "common_system": "(first, second)",
        "conflicts": "(first, second)", "first_conflict": "(first, second)",
    },
    comparison: {
        "false_friend": "(first, second)", "conflict_counts": "(first, second)", "interpret": "(first, second, phrase)",
        "translate": "(first, second, phrase)",
    },
    counting: {
        "words_said": "(system, start, stop)", "times_said": "(system, start, stop, word)",
        "longest_said": "(system, start, stop)", "Counting": "(system, number)",
    },
    editor: {"Editor": "(system)", "replayed": "(system, commands)", "EditorError": "(word)"},
}

# The classes of errors, each with the class that it stands under.
ERRORS = {
    systems.BadSystem: errors.SayError, texts.BadText: errors.SayError, texts.TooLong: errors.SayError,
    derivations.UnknownWord: errors.SayError, phrases.TooManyAnswers: errors.SayError,
    ambiguity.NotMultiplier: errors.SayError, reader.ReaderError: errors.SayError,
    reader.NotInSystem: reader.ReaderError, reader.TooManyWords: reader.ReaderError,
    reader.NotPossible: reader.ReaderError, reader.NoWord: reader.ReaderError,
    conflicts.Mismatch: errors.SayError, counting.BadRange: errors.SayError, counting.WordMissing: errors.SayError,
    editor.EditorError: errors.SayError, editor.OtherKind: editor.EditorError, editor.NotThere: editor.EditorError,
    editor.NothingLeft: editor.EditorError,
}

PLACES = {
    phrases: ("TooManyAnswers",), ambiguity: ("NotMultiplier",), texts: ("TooLong",), errors: ("SayError",),
    reader: ("ReaderError", "NotInSystem", "TooManyWords", "NotPossible", "NoWord"),
    counting: ("BadRange", "WordMissing"), editor: ("OtherKind", "NotThere", "NothingLeft"),
}


def sources():
    for name in sorted(os.listdir(FOLDER)):
        if name != "__pycache__":
            with open(os.path.join(FOLDER, name), encoding="utf-8") as file:
                yield name, file.read()


def bound_names(tree):
    names = set()
    for node in ast.walk(tree):
        if isinstance(node, (ast.FunctionDef, ast.ClassDef)):
            names.add(node.name)
        elif isinstance(node, ast.arg):
            names.add(node.arg)
        elif isinstance(node, ast.Name) and isinstance(node.ctx, ast.Store):
            names.add(node.id)
        elif isinstance(node, ast.ImportFrom):
            names.update(alias.name for alias in node.names)
    return names


class Interface(unittest.TestCase):
    def test_calls(self):
        for module, calls in CALLS.items():
            for name, signature in calls.items():
                found = getattr(module, name)
                self.assertEqual(found.__module__, module.__name__)
                self.assertEqual(str(inspect.signature(found)), signature, name)

    def test_methods(self):
        for kind, methods in METHODS.items():
            for name, signature in methods.items():
                self.assertEqual(str(inspect.signature(vars(kind)[name])), signature, name)

    def test_errors(self):
        self.assertEqual(errors.SayError.__bases__, (ValueError,))
        for error, base in ERRORS.items():
            self.assertEqual(error.__bases__, (base,))
        for module, names in PLACES.items():
            for name in names:
                self.assertEqual(getattr(module, name).__module__, module.__name__)


class Rules(unittest.TestCase):
    def test_characters_and_sizes(self):
        for name, source in sources():
            self.assertTrue(name.endswith(".py"), name)
            lines = source.splitlines()
            self.assertLessEqual(len(lines), 399, name)
            for line in lines:
                self.assertLessEqual(len(line), 120, (name, line))
                self.assertTrue(all(" " <= sign <= "~" for sign in line), (name, line))

    def test_functions(self):
        for name, source in sources():
            for node in ast.walk(ast.parse(source)):
                if isinstance(node, ast.FunctionDef):
                    self.assertLessEqual(node.end_lineno - node.lineno + 1, 40, (name, node.name))

    def test_names(self):
        for name, source in sources():
            tree = ast.parse(source)
            bound = bound_names(tree)
            self.assertFalse(bound & set(BUILTINS), name)
            for node in ast.walk(tree):
                if isinstance(node, ast.Name):
                    self.assertIn(node.id, bound | set(BUILTINS), (name, node.lineno))

    def test_imports_and_statements(self):
        barred = (ast.AsyncFunctionDef, ast.Await, ast.Div, ast.Import)
        for name, source in sources():
            for node in ast.walk(ast.parse(source)):
                self.assertNotIsInstance(node, barred, (name, node))
                if isinstance(node, ast.ImportFrom):
                    self.assertEqual(node.level, 0)
                    self.assertTrue(node.module.startswith("sayonce."), (name, node.module))

    def test_barred_names(self):
        for name, source in sources():
            for node in ast.walk(ast.parse(source)):
                for field in ("id", "attr", "name", "arg"):
                    self.assertNotIn(getattr(node, field, None), BARRED, (name, field))

    def test_methods_called(self):
        own = set()
        for _, source in sources():
            own.update(node.name for node in ast.walk(ast.parse(source)) if isinstance(node, ast.FunctionDef))
        for name, source in sources():
            for node in ast.walk(ast.parse(source)):
                if isinstance(node, ast.Call) and isinstance(node.func, ast.Attribute):
                    self.assertIn(node.func.attr, own | set(BUILTIN_METHODS), (name, node.lineno))

    def test_sets_are_passed_at_once(self):
        """L24: set(..) and set comprehensions stand directly in sorted(..) or len(..)."""
        for name, source in sources():
            tree = ast.parse(source)
            passed = [
                id(node.args[0]) for node in ast.walk(tree)
                if isinstance(node, ast.Call) and getattr(node.func, "id", None) in ("sorted", "len")
            ]
            for node in ast.walk(tree):
                called = isinstance(node, ast.Call) and getattr(node.func, "id", None) == "set"
                if called or isinstance(node, ast.SetComp):
                    self.assertIn(id(node), passed, (name, node.lineno))


if __name__ == "__main__":
    unittest.main()

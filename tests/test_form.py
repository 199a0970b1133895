"""The form of the package: the interface of the document, and those rules of LANGUAGE.md that are quick to see."""

import ast
import inspect
import os
import unittest

import sayonce
from sayonce import derivations, errors, systems, texts

FOLDER = os.path.dirname(os.path.abspath(sayonce.__file__))

BUILTINS = (
    "len range enumerate zip min max sum abs sorted reversed int str bool list tuple dict set isinstance ord repr "
    "any all divmod Exception ValueError TypeError KeyError IndexError LookupError ZeroDivisionError"
).split()

METHODS = {
    systems.System: {
        "words": "(self)", "simple_value": "(self, word)", "multiplier": "(self, word)", "endless": "(self)",
        "bounded_maximum": "(self)",
    },
}

CALLS = {
    systems: {
        "BadSystem": "(part, number, reason)", "System": "(simple, multipliers)", "is_word": "(text)",
        "is_spoken": "(row, count)",
    },
    texts: {"BadText": "(position)", "read_system": "(text)", "write_system": "(system)"},
    derivations: {
        "UnknownWord": "(number)", "derivation_count": "(system, number)", "phrase_at": "(system, number, index)",
        "index_of": "(system, number, phrase)", "shortest_phrase": "(system, number)",
        "phrases_of": "(system, number, *, most=100)",
    },
}


def sources():
    for name in sorted(os.listdir(FOLDER)):
        if name != "__pycache__":
            with open(os.path.join(FOLDER, name), encoding="utf-8") as file:
                yield name, file.read()


def bound_names(tree):
    names = set()
    for node in ast.walk(tree):
        if isinstance(node, (ast.FunctionDef, ast.ClassDef)):
            names.add(node.name)
        elif isinstance(node, ast.arg):
            names.add(node.arg)
        elif isinstance(node, ast.Name) and isinstance(node.ctx, ast.Store):
            names.add(node.id)
        elif isinstance(node, ast.ImportFrom):
            names.update(alias.name for alias in node.names)
    return names


class Interface(unittest.TestCase):
    def test_calls(self):
        for module, calls in CALLS.items():
            for name, signature in calls.items():
                found = getattr(module, name)
                self.assertEqual(found.__module__, module.__name__)
                self.assertEqual(str(inspect.signature(found)), signature, name)

    def test_methods(self):
        for kind, methods in METHODS.items():
            for name, signature in methods.items():
                self.assertEqual(str(inspect.signature(vars(kind)[name])), signature, name)

    def test_errors(self):
        self.assertEqual(errors.SayError.__bases__, (ValueError,))
        for error in (systems.BadSystem, texts.BadText, texts.TooLong, derivations.UnknownWord):
            self.assertEqual(error.__bases__, (errors.SayError,))


class Rules(unittest.TestCase):
    def test_characters_and_sizes(self):
        for name, source in sources():
            self.assertTrue(name.endswith(".py"), name)
            lines = source.splitlines()
            self.assertLessEqual(len(lines), 399, name)
            for line in lines:
                self.assertLessEqual(len(line), 120, (name, line))
                self.assertTrue(all(" " <= sign <= "~" for sign in line), (name, line))

    def test_functions(self):
        for name, source in sources():
            for node in ast.walk(ast.parse(source)):
                if isinstance(node, ast.FunctionDef):
                    self.assertLessEqual(node.end_lineno - node.lineno + 1, 40, (name, node.name))

    def test_names(self):
        for name, source in sources():
            tree = ast.parse(source)
            bound = bound_names(tree)
            self.assertFalse(bound & set(BUILTINS), name)
            for node in ast.walk(tree):
                if isinstance(node, ast.Name):
                    self.assertIn(node.id, bound | set(BUILTINS), (name, node.lineno))

    def test_imports_and_statements(self):
        barred = (ast.AsyncFunctionDef, ast.Await, ast.Div, ast.Import)
        for name, source in sources():
            for node in ast.walk(ast.parse(source)):
                self.assertNotIsInstance(node, barred, (name, node))
                if isinstance(node, ast.ImportFrom):
                    self.assertEqual(node.level, 0)
                    self.assertTrue(node.module.startswith("sayonce."), (name, node.module))


if __name__ == "__main__":
    unittest.main()

"""The package's files keep to the plain form that can be seen from outside: size, signs, words, imports."""

import ast
import builtins
import os
import re
import unittest

import foilcuts

FOLDER = os.path.dirname(foilcuts.__file__)
WORDS_LEFT_OUT = ("type", "typing", "typing_extensions", "enum", "Enum", "IntEnum", "StrEnum", "Flag", "IntFlag",
                  "Generic", "Protocol", "ABC", "ABCMeta", "namedtuple", "NamedTuple", "TypedDict", "TYPE_CHECKING",
                  "abstractmethod")
NODES_LEFT_OUT = (ast.With, ast.Match, ast.Delete, ast.Global, ast.Nonlocal, ast.Assert, ast.Yield, ast.YieldFrom,
                  ast.AsyncFunctionDef, ast.Await, ast.Div, ast.SetComp, ast.DictComp, ast.GeneratorExp,
                  ast.NamedExpr, ast.Starred, ast.Import, ast.ImportFrom)
OWN_TO_PYTHON = ("len", "range", "enumerate", "zip", "min", "max", "sum", "abs", "sorted", "reversed", "int", "str",
                 "bool", "list", "tuple", "dict", "isinstance", "any", "all", "divmod")
METHODS = ("append", "count", "extend", "get", "index", "items", "keys", "pop", "values")


def sources():
    for name in sorted(os.listdir(FOLDER)):
        if name != "__pycache__":
            with open(os.path.join(FOLDER, name), encoding="utf-8", newline="") as file:
                yield name, file.read()


class Language(unittest.TestCase):
    def test_files(self):
        self.assertEqual([name for name, text in sources() if not re.fullmatch(r"[a-z0-9_]+\.py", name)], [])

    def test_size_and_signs(self):
        for name, text in sources():
            with self.subTest(name=name):
                self.assertLessEqual(text.count("\n"), 400)
                self.assertLessEqual(max(len(row) for row in text.split("\n")), 120)
                self.assertIsNone(re.search(r"[^ -~\n]", text))

    def test_words(self):
        for name, text in sources():
            with self.subTest(name=name):
                self.assertEqual(sorted(set(re.findall(r"\w+", text)) & set(WORDS_LEFT_OUT)), [])

    def test_short_functions_of_plain_statements(self):
        for name, text in sources():
            for node in ast.walk(ast.parse(text)):
                with self.subTest(name=name, line=getattr(node, "lineno", 0)):
                    self.assertNotIsInstance(node, NODES_LEFT_OUT)
                    if isinstance(node, ast.FunctionDef):
                        self.assertLessEqual(node.end_lineno - node.lineno + 1, 40)

    def test_names(self):
        for name, text in sources():
            nodes = list(ast.walk(ast.parse(text)))
            bound = {node.id for node in nodes if isinstance(node, ast.Name) and isinstance(node.ctx, ast.Store)}
            bound |= {node.arg for node in nodes if isinstance(node, ast.arg)}
            bound |= {node.name for node in nodes if isinstance(node, (ast.FunctionDef, ast.ClassDef))}
            read = {node.id for node in nodes if isinstance(node, ast.Name) and isinstance(node.ctx, ast.Load)}
            with self.subTest(name=name):
                self.assertEqual(sorted(bound & set(dir(builtins))), [])
                self.assertEqual([one for one in sorted(bound) if one.startswith("_") and one != "__init__"], [])
                self.assertEqual(sorted(read - bound - set(OWN_TO_PYTHON)), [])

    def test_methods(self):
        for name, text in sources():
            for node in ast.walk(ast.parse(text)):
                if isinstance(node, ast.Call) and isinstance(node.func, ast.Attribute):
                    with self.subTest(name=name, line=node.lineno):
                        self.assertIn(node.func.attr, METHODS)


if __name__ == "__main__":
    unittest.main()

"""The plainest rules for the files of the package: their names, sizes, characters, imports and statements."""

import ast
import os
import re
import unittest

ROOT = os.path.join(os.path.dirname(os.path.dirname(os.path.abspath(__file__))), "joinmore")
BARRED = re.compile(
    r"\b(typing|typing_extensions|enum|Enum|Generic|Protocol|ABC|ABCMeta|namedtuple|NamedTuple|eval|exec|open|input"
    r"|global|async|lambda_|float|frozenset|print|hash|id)\b"
)
DUNDERS = (
    "__init__", "__eq__", "__repr__", "__str__", "__len__", "__iter__", "__getitem__", "__contains__", "__add__", "__mul__",
    "__call__", "__enter__", "__exit__",
)
MODULE_LEVEL = (ast.ImportFrom, ast.FunctionDef, ast.ClassDef, ast.Assign, ast.Expr)
NEVER = (
    ast.Import, ast.Lambda, ast.GeneratorExp, ast.Global, ast.AugAssign, ast.AsyncFunctionDef, ast.Await, ast.Div, ast.Set,
)


def files():
    for folder, inner, names in os.walk(ROOT):
        inner[:] = sorted(name for name in inner if name != "__pycache__")
        for name in sorted(names):
            yield os.path.join(folder, name)


class Language(unittest.TestCase):
    def setUp(self):
        self.texts = {}
        for path in files():
            with open(path, encoding="utf-8") as told:
                self.texts[os.path.relpath(path, ROOT)] = told.read()
        self.trees = {path: ast.parse(text) for path, text in self.texts.items()}

    def test_files(self):
        folders = {os.path.dirname(path) for path in self.texts}
        for folder in folders:
            self.assertIn(os.path.join(folder, "__init__.py"), self.texts)
        for path in self.texts:
            self.assertRegex(path, r"^([a-z_0-9]+/)*[a-z_0-9]+\.py$")

    def test_sizes_and_characters(self):
        for path, text in self.texts.items():
            lines = text.split("\n")
            self.assertLessEqual(len(lines), 399, path)
            self.assertLessEqual(max(len(line) for line in lines), 120, path)
            self.assertTrue(all(" " <= letter <= "~" or letter == "\n" for letter in text), path)
            for node in ast.walk(self.trees[path]):
                if isinstance(node, ast.FunctionDef):
                    self.assertLessEqual(node.end_lineno - node.lineno + 1, 40, (path, node.name))

    def test_imports(self):
        for path, tree in self.trees.items():
            for node in ast.walk(tree):
                if isinstance(node, ast.ImportFrom) and node.module == "math":
                    self.assertEqual([(name.name, name.asname) for name in node.names], [("gcd", None)], path)
                elif isinstance(node, ast.ImportFrom):
                    self.assertEqual(node.level, 0, path)
                    self.assertTrue(node.module.startswith("joinmore."), (path, node.module))
                    place = node.module.split(".", 1)[1].replace(".", "/") + ".py"
                    defined = {part.name for part in self.trees[place].body if hasattr(part, "name")}
                    for part in self.trees[place].body:
                        if isinstance(part, ast.Assign):
                            defined.add(part.targets[0].id)
                    for name in node.names:
                        self.assertIn(name.name, defined, (path, node.module))
                        self.assertIsNone(name.asname, path)

    def test_statements(self):
        for path, tree in self.trees.items():
            for node in tree.body:
                self.assertIsInstance(node, MODULE_LEVEL, path)
            for node in ast.walk(tree):
                self.assertNotIsInstance(node, NEVER, (path, getattr(node, "lineno", 0)))
                if isinstance(node, ast.FunctionDef) and node.name.startswith("__"):
                    self.assertIn(node.name, DUNDERS, path)
                if isinstance(node, ast.Attribute):
                    self.assertFalse(node.attr.startswith("__"), (path, node.lineno))

    def test_words(self):
        for path, tree in self.trees.items():
            for node in ast.walk(tree):
                for word in (getattr(node, "id", None), getattr(node, "arg", None), getattr(node, "name", None)):
                    if isinstance(word, str):
                        self.assertIsNone(BARRED.search(word), (path, word))


if __name__ == "__main__":
    unittest.main()

"""Holds the package's files against those rules of its language that a short test can see."""

import ast
import builtins
import pathlib
import re
import unittest

PACKAGE = pathlib.Path(__file__).resolve().parent.parent / "twinmoulds"
FILES = sorted(PACKAGE.glob("**/*.py"))

WORDS_OUT = ["type", "typing", "typing_extensions", "enum", "Enum", "IntEnum", "StrEnum", "Flag", "IntFlag", "Generic",
             "Protocol", "ABC", "ABCMeta", "namedtuple", "NamedTuple", "TypedDict", "TYPE_CHECKING", "abstractmethod"]
NODES_OUT = (ast.With, ast.Match, ast.Global, ast.Nonlocal, ast.Yield, ast.YieldFrom, ast.AsyncFunctionDef, ast.Await,
             ast.GeneratorExp, ast.NamedExpr, ast.Div, ast.Import, ast.MatMult)
BUILT_IN = {"len", "range", "enumerate", "zip", "min", "max", "sum", "abs", "sorted", "reversed", "int", "str", "bool",
            "bytes", "list", "tuple", "dict", "set", "isinstance", "ord", "repr", "any", "all", "divmod", "Exception",
            "ValueError", "TypeError", "KeyError", "IndexError", "LookupError", "ZeroDivisionError"}


def names_given(tree):
    """Every name that a file itself gives: its defs, classes, imports, parameters and locals."""
    given = set()
    for node in ast.walk(tree):
        if isinstance(node, (ast.FunctionDef, ast.ClassDef)):
            given.add(node.name)
        elif isinstance(node, ast.ImportFrom):
            given.update(each.asname or each.name for each in node.names)
        elif isinstance(node, ast.arg):
            given.add(node.arg)
        elif isinstance(node, ast.Name) and not isinstance(node.ctx, ast.Load):
            given.add(node.id)
        elif isinstance(node, ast.ExceptHandler) and node.name:
            given.add(node.name)
    return given


class Language(unittest.TestCase):
    def test_files(self):
        self.assertTrue((PACKAGE / "__init__.py").is_file())
        for path in PACKAGE.glob("**/*"):
            if "__pycache__" not in path.parts:
                self.assertRegex(path.name, r"^[a-z0-9_]+\.py$")

    def test_signs_and_sizes(self):
        for path in FILES:
            text = path.read_bytes().decode("ascii")
            self.assertNotRegex(text, r"[^\n -~]", path)
            self.assertLessEqual(len(text.splitlines()), 400, path)
            self.assertLessEqual(max(len(row) for row in text.splitlines()), 120, path)

    def test_words(self):
        for path in FILES:
            words = set(re.findall(r"\w+", path.read_text()))
            self.assertEqual(words & set(WORDS_OUT), set(), path)

    def test_forms(self):
        for path in FILES:
            for node in ast.walk(ast.parse(path.read_text())):
                self.assertNotIsInstance(node, NODES_OUT, (path, getattr(node, "lineno", 0)))
                if isinstance(node, ast.Constant):
                    self.assertNotIsInstance(node.value, (float, complex), path)
                    self.assertNotIn("%", node.value if isinstance(node.value, str) else "", path)
                if isinstance(node, ast.ImportFrom):
                    self.assertEqual((node.module.split(".")[0], node.level), ("twinmoulds", 0), path)
                if isinstance(node, ast.FunctionDef):
                    self.assertLessEqual(node.end_lineno - node.lineno + 1, 40, (path, node.name))
                    self.assertEqual(node.decorator_list, [], (path, node.name))

    def test_names(self):
        for path in FILES:
            tree = ast.parse(path.read_text())
            given = names_given(tree)
            read = {node.id for node in ast.walk(tree) if isinstance(node, ast.Name)}
            self.assertEqual(read - given - BUILT_IN, set(), path)
            self.assertEqual(given & set(dir(builtins)) - {"__init__"}, set(), path)
            self.assertEqual([name for name in given if name.startswith("_") and name != "__init__"], [], path)


if __name__ == "__main__":
    unittest.main()

"""Holds the package's files against those rules of its language that a short test can see."""

import ast
import builtins
import pathlib
import re
import unittest

PACKAGE = pathlib.Path(__file__).resolve().parent.parent / "twinmoulds"
FILES = sorted(PACKAGE.glob("**/*.py"))

WORDS_OUT = ["type", "typing", "typing_extensions", "enum", "Enum", "IntEnum", "StrEnum", "Flag", "IntFlag", "Generic",
             "Protocol", "ABC", "ABCMeta", "namedtuple", "NamedTuple", "TypedDict", "TYPE_CHECKING", "abstractmethod"]
NODES_OUT = (ast.With, ast.Match, ast.Global, ast.Nonlocal, ast.Yield, ast.YieldFrom, ast.AsyncFunctionDef, ast.Await,
             ast.GeneratorExp, ast.NamedExpr, ast.Div, ast.Import, ast.MatMult)
BUILT_IN = {"len", "range", "enumerate", "zip", "min", "max", "sum", "abs", "sorted", "reversed", "int", "str", "bool",
            "bytes", "list", "tuple", "dict", "set", "isinstance", "ord", "repr", "any", "all", "divmod", "Exception",
            "ValueError", "TypeError", "KeyError", "IndexError", "LookupError", "ZeroDivisionError"}

METHODS = {"append", "clear", "copy", "count", "endswith", "extend", "find", "get", "index", "insert", "isalnum",
           "isalpha", "isdigit", "islower", "isspace", "isupper", "items", "join", "keys", "ljust", "lower", "lstrip",
           "partition", "pop", "remove", "replace", "reverse", "rfind", "rjust", "rpartition", "rsplit", "rstrip",
           "setdefault", "split", "splitlines", "startswith", "strip", "update", "upper", "values", "zfill",
           "bit_length"}
NAMES_OUT = {"register", "mro", "elements", "open", "input", "version_info", "with_traceback", "add_note", "format",
             "format_map", "attrgetter", "breakpoint", "builtins", "compile", "copyright", "credits", "delattr", "dir",
             "eval", "exec", "exit", "gc", "getattr", "globals", "hasattr", "help", "id", "importlib", "license",
             "locals", "methodcaller", "os", "quit", "setattr", "super", "vars", "sys", "args"}
STATEMENTS = (ast.Assign, ast.AugAssign, ast.If, ast.While, ast.For, ast.Return, ast.Break, ast.Continue, ast.Pass,
              ast.Raise, ast.Expr, ast.FunctionDef, ast.ClassDef, ast.ImportFrom)
PYTHONS_OWN = {name for kind in (str, int, list, dict, set, bytes) for name in dir(kind)}
WALKED = {"zip", "enumerate", "reversed", "range"}
WALKERS = {"list", "tuple", "dict", "sorted", "sum", "any", "all", "enumerate", "zip", "bytes", "min", "max"}


def names_given(tree):
    """Every name that a file itself gives: its defs, classes, imports, parameters and locals."""
    given = set()
    for node in ast.walk(tree):
        if isinstance(node, (ast.FunctionDef, ast.ClassDef)):
            given.add(node.name)
        elif isinstance(node, ast.ImportFrom):
            given.update(each.asname or each.name for each in node.names)
        elif isinstance(node, ast.arg):
            given.add(node.arg)
        elif isinstance(node, ast.Name) and not isinstance(node.ctx, ast.Load):
            given.add(node.id)
        elif isinstance(node, ast.ExceptHandler) and node.name:
            given.add(node.name)
    return given


def with_parents(tree):
    """Each node of a tree with the one that holds it."""
    return [(node, holder) for holder in ast.walk(tree) for node in ast.iter_child_nodes(holder)]


def is_call_of(node, names):
    return isinstance(node, ast.Call) and isinstance(node.func, ast.Name) and node.func.id in names


def classes():
    """Each class of the package."""
    return [node for path in FILES for node in ast.parse(path.read_text()).body if isinstance(node, ast.ClassDef)]


def methods_of(held):
    return [node.name for node in held.body if isinstance(node, ast.FunctionDef)]


def own_methods():
    """The names of all methods of the package's classes."""
    return {name for held in classes() for name in methods_of(held)} - {"__init__"}


def own_values():
    """The names of all values that the package's classes give their objects."""
    return {node.attr for held in classes() for node in ast.walk(held)
            if isinstance(node, ast.Attribute) and isinstance(node.ctx, ast.Store)}


def names_at_top(tree):
    """Every name that a file's top binds, as often as it does."""
    given = []
    for node in tree.body:
        if isinstance(node, (ast.FunctionDef, ast.ClassDef)):
            given.append(node.name)
        elif isinstance(node, ast.ImportFrom):
            given += [each.asname or each.name for each in node.names]
        elif isinstance(node, ast.Assign):
            given += [target.id for target in node.targets]
    return given


class Language(unittest.TestCase):
    def test_files(self):
        self.assertTrue((PACKAGE / "__init__.py").is_file())
        for path in PACKAGE.glob("**/*"):
            if "__pycache__" not in path.parts:
                self.assertRegex(path.name, r"^[a-z0-9_]+\.py$")

    def test_signs_and_sizes(self):
        for path in FILES:
            text = path.read_bytes().decode("ascii")
            self.assertNotRegex(text, r"[^\n -~]", path)
            self.assertLessEqual(len(text.splitlines()), 400, path)
            self.assertLessEqual(max(len(row) for row in text.splitlines()), 120, path)

    def test_words(self):
        for path in FILES:
            words = set(re.findall(r"\w+", path.read_text()))
            self.assertEqual(words & set(WORDS_OUT), set(), path)

    def test_forms(self):
        for path in FILES:
            for node in ast.walk(ast.parse(path.read_text())):
                self.assertNotIsInstance(node, NODES_OUT, (path, getattr(node, "lineno", 0)))
                if isinstance(node, ast.Constant):
                    self.assertNotIsInstance(node.value, (float, complex), path)
                    self.assertNotIn("%", node.value if isinstance(node.value, str) else "", path)
                if isinstance(node, ast.ImportFrom):
                    self.assertEqual((node.module.split(".")[0], node.level), ("twinmoulds", 0), path)
                if isinstance(node, ast.FunctionDef):
                    self.assertLessEqual(node.end_lineno - node.lineno + 1, 40, (path, node.name))
                    self.assertEqual(node.decorator_list, [], (path, node.name))

    def test_names(self):
        for path in FILES:
            tree = ast.parse(path.read_text())
            given = names_given(tree)
            read = {node.id for node in ast.walk(tree) if isinstance(node, ast.Name)}
            self.assertEqual(read - given - BUILT_IN, set(), path)
            self.assertEqual(given & set(dir(builtins)) - {"__init__"}, set(), path)
            self.assertEqual([name for name in given if name.startswith("_") and name != "__init__"], [], path)

    def test_tops(self):
        for path in FILES:
            tree = ast.parse(path.read_text())
            self.assertTrue(all(isinstance(node, (ast.FunctionDef, ast.ClassDef, ast.ImportFrom, ast.Assign))
                                for node in tree.body[1:]), path)
            self.assertIsNotNone(ast.get_docstring(tree), path)
            self.assertEqual(len(names_at_top(tree)), len(set(names_at_top(tree))), path)

    def test_imports_are_drawn_from_where_they_are_defined_and_used(self):
        for path in FILES:
            tree = ast.parse(path.read_text())
            read = {node.id for node in ast.walk(tree) if isinstance(node, ast.Name)}
            for row in tree.body:
                if isinstance(row, ast.ImportFrom):
                    drawn = ast.parse((PACKAGE.parent / (row.module.replace(".", "/") + ".py")).read_text())
                    defined = {name for node in drawn.body if not isinstance(node, ast.ImportFrom)
                               for name in names_at_top(ast.Module([node], []))}
                    self.assertLessEqual({each.name for each in row.names}, defined & read, (path, row.module))

    def test_no_two_files_draw_from_one_another(self):
        drawn = {path.stem: {row.module.split(".")[1] for row in ast.parse(path.read_text()).body
                             if isinstance(row, ast.ImportFrom)} for path in FILES}
        while drawn:
            free = [name for name in drawn if not drawn[name] & set(drawn)]
            self.assertTrue(free, drawn)
            drawn = {name: drawn[name] for name in drawn if name not in free}

    def test_locals_are_not_called_like_imports_and_classes(self):
        for path in FILES:
            tree = ast.parse(path.read_text())
            top = {name for node in tree.body if isinstance(node, (ast.ImportFrom, ast.ClassDef))
                   for name in names_at_top(ast.Module([node], []))}
            for node in ast.walk(tree):
                if isinstance(node, ast.FunctionDef):
                    self.assertEqual((names_given(node) - {node.name}) & top, set(), (path, node.name))

    def test_methods(self):
        for path in FILES:
            for node in ast.walk(ast.parse(path.read_text())):
                if isinstance(node, ast.Call) and isinstance(node.func, ast.Attribute):
                    self.assertIn(node.func.attr, METHODS | own_methods(), (path, node.lineno))

    def test_classes(self):
        for held in classes():
            self.assertLessEqual(len(held.bases), 1, held.name)
            self.assertEqual((held.decorator_list, held.keywords), ([], []), held.name)
            self.assertIsNotNone(ast.get_docstring(held), held.name)
            self.assertTrue(all(isinstance(node, ast.FunctionDef) for node in held.body[1:]), held.name)
            self.assertEqual(len(methods_of(held)), len(set(methods_of(held))), held.name)

    def test_methods_and_values_of_classes(self):
        self.assertEqual(own_methods() & own_values(), set())
        self.assertEqual((own_methods() | own_values()) & PYTHONS_OWN, set())
        for path in FILES:
            for node, holder in with_parents(ast.parse(path.read_text())):
                if isinstance(node, ast.Attribute) and not (isinstance(holder, ast.Call) and holder.func is node):
                    self.assertIn(node.attr, own_values(), (path, node.lineno))

    def test_statements_and_parameters(self):
        for path in FILES:
            for node in ast.walk(ast.parse(path.read_text())):
                where = (path, getattr(node, "lineno", 0))
                if isinstance(node, ast.stmt):
                    self.assertIsInstance(node, STATEMENTS, where)
                if isinstance(node, (ast.For, ast.While)):
                    self.assertEqual(node.orelse, [], where)
                if isinstance(node, ast.arguments):
                    self.assertEqual((node.vararg, node.kwarg, node.posonlyargs, node.defaults), (None, None, [], []))
                if isinstance(node, ast.Raise):
                    self.assertIsInstance(node.exc, ast.Call, where)
                    self.assertIsInstance(node.exc.func, ast.Name, where)
                if isinstance(node, ast.FormattedValue):
                    self.assertIsNone(node.format_spec, where)
                if isinstance(node, (ast.Starred, ast.Pow)):
                    self.fail(where)

    def test_names_that_are_not_used(self):
        for path in FILES:
            for node in ast.walk(ast.parse(path.read_text())):
                for name in [getattr(node, field, None) for field in ("id", "attr", "arg", "name")]:
                    self.assertNotIn(name, NAMES_OUT, path)

    def test_escapes(self):
        for path in FILES:
            self.assertEqual(set(re.findall(r"\\.", path.read_text())) - {"\\n", "\\t"}, set(), path)

    def test_is_stands_beside_none_true_and_false(self):
        for path in FILES:
            for node in ast.walk(ast.parse(path.read_text())):
                if isinstance(node, ast.Compare) and any(isinstance(sign, (ast.Is, ast.IsNot)) for sign in node.ops):
                    self.assertIn(getattr(node.comparators[0], "value", 0), (None, True, False), (path, node.lineno))

    def test_what_is_walked_at_once_and_sets(self):
        for path in FILES:
            for node, holder in with_parents(ast.parse(path.read_text())):
                where = (path, getattr(node, "lineno", 0))
                if is_call_of(node, WALKED) or (isinstance(node, ast.Call) and isinstance(node.func, ast.Attribute)
                                                and node.func.attr in ("items", "keys", "values")):
                    self.assertTrue(isinstance(holder, (ast.For, ast.comprehension)) or is_call_of(holder, WALKERS)
                                    or (is_call_of(node, {"range"}) and is_call_of(holder, {"reversed"})), where)
                if is_call_of(node, {"set"}) or isinstance(node, (ast.Set, ast.SetComp)):
                    self.assertTrue(is_call_of(holder, {"sorted", "len"}) or isinstance(holder, ast.Compare), where)


if __name__ == "__main__":
    unittest.main()

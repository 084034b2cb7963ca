"""What can be held of shared/LANGUAGE.md without reading it anew: files, sizes, signs, words and forms."""

import ast
import builtins
import re
import unittest
from pathlib import Path

PACKAGE = Path(__file__).resolve().parent.parent / "twobaskets"
FORBIDDEN_WORDS = (
    "type", "typing", "typing_extensions", "enum", "Enum", "IntEnum", "StrEnum", "Flag", "IntFlag", "Generic",
    "Protocol", "ABC", "ABCMeta", "namedtuple", "NamedTuple", "TypedDict", "TYPE_CHECKING", "abstractmethod",
)
FORBIDDEN_PARTS = ("dataclass", "overload", "contextmanager")
FORBIDDEN_FORMS = (
    ast.With, ast.Match, ast.Delete, ast.Global, ast.Nonlocal, ast.Assert, ast.Yield, ast.YieldFrom, ast.Starred,
    ast.AsyncFunctionDef, ast.Await, ast.SetComp, ast.DictComp, ast.GeneratorExp, ast.NamedExpr, ast.Div,
)
PYTHONS_OWN = (
    "len", "range", "enumerate", "zip", "min", "max", "sum", "abs", "sorted", "reversed", "int", "str", "bool", "list",
    "tuple", "dict", "set", "isinstance", "any", "all", "divmod", "Exception", "ValueError",
)
PYTHONS_METHODS = (
    "append", "clear", "copy", "count", "endswith", "extend", "find", "get", "index", "insert", "items", "join", "keys",
    "pop", "remove", "replace", "reverse", "setdefault", "split", "startswith", "strip", "update", "values",
)


def package_files():
    return [path for path in PACKAGE.rglob("*") if "__pycache__" not in path.parts]


def trees():
    return [(path.name, ast.parse(path.read_text(encoding="utf-8"))) for path in package_files()]


def nodes(kinds):
    return [(name, node) for name, tree in trees() for node in ast.walk(tree) if isinstance(node, kinds)]


class Language(unittest.TestCase):
    def test_files(self):
        self.assertEqual(sorted(path.name for path in package_files()), ["__init__.py", "tower.py"])

    def test_signs_and_sizes(self):
        for path in package_files():
            rows = path.read_bytes().decode("ascii").split("\n")
            self.assertLessEqual(len(rows), 401, path.name)
            for row in rows:
                self.assertLessEqual(len(row), 120, row)
                self.assertRegex(row, r"\A[ -~]*\Z")

    def test_functions_are_short(self):
        for name, node in nodes(ast.FunctionDef):
            self.assertLessEqual(node.end_lineno - node.lineno + 1, 40, node.name)

    def test_words(self):
        for path in package_files():
            text = path.read_text(encoding="utf-8")
            self.assertEqual([word for word in FORBIDDEN_WORDS if re.search(rf"\b{word}\b", text)], [])
            self.assertEqual([part for part in FORBIDDEN_PARTS if part in text], [])

    def test_nothing_is_imported(self):
        self.assertEqual(nodes((ast.Import, ast.ImportFrom)), [])

    def test_forms(self):
        self.assertEqual([(name, node.lineno) for name, node in nodes(FORBIDDEN_FORMS) if hasattr(node, "lineno")], [])
        self.assertEqual(nodes(ast.Div), [])
        for name, node in nodes((ast.For, ast.While)):
            self.assertEqual(node.orelse, [])
        for name, node in nodes(ast.Assign):
            self.assertEqual(len(node.targets), 1)

    def test_no_parameter_or_local_is_called_like_a_name_of_pythons_own(self):
        given = [node.arg for name, node in nodes(ast.arg)]
        given += [node.id for name, node in nodes(ast.Name) if isinstance(node.ctx, ast.Store)]
        self.assertEqual([word for word in given if word in dir(builtins) or word.startswith("_")], [])

    def test_names_of_a_files_top_are_bound_once(self):
        for name, tree in trees():
            bound = [node.name for node in tree.body if isinstance(node, (ast.FunctionDef, ast.ClassDef))]
            for node in tree.body:
                if isinstance(node, ast.Assign):
                    bound += [target.id for target in node.targets]
                    ast.literal_eval(node.value)
            self.assertEqual(sorted(bound), sorted(set(bound)), name)

    def test_methods_and_values_of_objects(self):
        methods = {node.name for name, found in nodes(ast.ClassDef) for node in found.body if hasattr(node, "name")}
        called = {node.func.attr for name, node in nodes(ast.Call) if isinstance(node.func, ast.Attribute)}
        values = {node.attr for name, node in nodes(ast.Attribute) if isinstance(node.ctx, ast.Store)}
        self.assertEqual(called - methods - set(PYTHONS_METHODS), set())
        self.assertEqual(methods & values, set())
        of_pythons_own = {word for kind in (str, int, list, dict, set, bytes, tuple) for word in dir(kind)}
        self.assertEqual((methods | values) & of_pythons_own, {"__init__"})

    def test_names_that_are_read_are_bound_in_the_file_or_allowed(self):
        for name, tree in trees():
            bound = set(PYTHONS_OWN)
            for node in ast.walk(tree):
                if isinstance(node, (ast.FunctionDef, ast.ClassDef)):
                    bound.add(node.name)
                if isinstance(node, ast.arg):
                    bound.add(node.arg)
                if isinstance(node, ast.Name) and isinstance(node.ctx, ast.Store):
                    self.assertNotIn(node.id, PYTHONS_OWN)
                    bound.add(node.id)
            read = {node.id for node in ast.walk(tree) if isinstance(node, ast.Name)}
            self.assertEqual(sorted(read - bound), [], name)


if __name__ == "__main__":
    unittest.main()

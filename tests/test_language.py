"""The form of the package: what can be checked of the rules of the language subset.

The package uses less than the rules allow, so some of the checks are narrower than the rules.
"""

import ast
import re
import unittest
from pathlib import Path

FOLDER = Path(__file__).resolve().parent.parent / "loopworks"
FILES = sorted(FOLDER.glob("*.py"))
STATEMENTS = (
    ast.FunctionDef, ast.ClassDef, ast.Return, ast.Assign, ast.AugAssign, ast.For, ast.While,
    ast.If, ast.Raise, ast.Pass, ast.Break, ast.Continue, ast.Expr, ast.ImportFrom, ast.Delete,
    ast.Try, ast.With,
)
FORBIDDEN = (
    ast.Global, ast.Nonlocal, ast.AsyncFunctionDef, ast.Yield, ast.YieldFrom, ast.Await,
    ast.GeneratorExp, ast.NamedExpr, ast.Set, ast.SetComp, ast.Starred,
    ast.Assert, ast.Match, ast.Div, ast.AnnAssign, ast.Import,
)
BUILTINS = (
    "len range enumerate zip min max sum abs sorted reversed int str bool list tuple dict "
    "isinstance ord repr any all divmod iter set super staticmethod ValueError"
).split()
METHODS = (
    "append extend get items setdefault index join split isdigit count find startswith pop remove"
).split()
LIBRARY = {"math": ("gcd", "lcm")}
# Parameters that are functions.
PASSED = ["make"]
DOUBLE = "__init__ __eq__ __len__ __iter__ __contains__ __add__ __enter__ __exit__".split()
BARRED = (
    "register mro elements open input law version_info with_traceback add_note type typing enum "
    "Enum Flag Generic Protocol ABC namedtuple dataclass overload contextmanager os vars dir eval "
    "exec exit id help compile globals locals license"
).split()


def trees():
    for path in FILES:
        yield path, ast.parse(path.read_text("ascii"))


def own_names(kind):
    return [node.name for _, tree in trees() for node in ast.walk(tree) if isinstance(node, kind)]


class TextTest(unittest.TestCase):
    def test_the_folder(self):
        for path in FOLDER.iterdir():
            if path.name != "__pycache__":
                self.assertRegex(path.name, r"^[a-z_]+\.py$")

    def test_sizes_and_characters(self):
        for path in FILES:
            text = path.read_text("ascii")
            self.assertLessEqual(len(text.split("\n")), 399, path.name)
            self.assertTrue(all(c == "\n" or " " <= c <= "~" for c in text), path.name)
            self.assertLessEqual(max(len(line) for line in text.split("\n")), 120, path.name)

    def test_functions_are_short(self):
        for path, tree in trees():
            for node in ast.walk(tree):
                if isinstance(node, ast.FunctionDef):
                    rows = node.end_lineno - node.lineno + 1
                    self.assertLessEqual(rows, 40, (path.name, node.name))

    def test_barred_words(self):
        for path, tree in trees():
            for node in ast.walk(tree):
                for field in ("id", "attr", "name", "arg"):
                    value = getattr(node, field, None)
                    if isinstance(value, str):
                        self.assertNotIn(value, BARRED, path.name)
                        self.assertNotRegex(value, r"^_[a-z]|^__(?!(init|eq|len|iter|contains|add|enter|exit)__)")
                if isinstance(node, ast.Constant) and isinstance(node.value, str):
                    self.assertNotIn("\u0025", node.value, path.name)
                    self.assertFalse(re.search(r"\.__?$", node.value), path.name)


class FormTest(unittest.TestCase):
    def test_statements_and_expressions(self):
        for path, tree in trees():
            for node in ast.walk(tree):
                place = (path.name, getattr(node, "lineno", None))
                self.assertNotIsInstance(node, FORBIDDEN, place)
                if isinstance(node, ast.stmt):
                    self.assertIsInstance(node, STATEMENTS, place)

    def test_module_level(self):
        for path, tree in trees():
            bound = []
            for node in tree.body:
                if isinstance(node, ast.Expr):
                    self.assertIsInstance(node.value, ast.Constant)
                elif isinstance(node, ast.Assign):
                    ast.literal_eval(node.value)
                    bound.append(node.targets[0].id)
                elif isinstance(node, ast.ImportFrom):
                    bound.extend([alias.name for alias in node.names])
                else:
                    self.assertIsInstance(node, (ast.FunctionDef, ast.ClassDef))
                    bound.append(node.name)
            self.assertEqual(len(bound), len(set(bound)), path.name)

    def test_imports(self):
        graph = {}
        for path, tree in trees():
            graph[path.stem] = []
            for node in ast.walk(tree):
                if isinstance(node, ast.ImportFrom):
                    self.assertIn(node, tree.body)
                    self.assertEqual(node.level, 0)
                    if node.module in LIBRARY:
                        self.check_library(tree, node)
                        continue
                    package, name = node.module.split(".")
                    self.assertEqual(package, "loopworks")
                    self.assertTrue(all(alias.asname is None for alias in node.names))
                    graph[path.stem].append(name)
                    source = ast.parse((FOLDER / f"{name}.py").read_text("ascii"))
                    defined = [getattr(top, "name", "") for top in source.body]
                    assigned = [top for top in source.body if isinstance(top, ast.Assign)]
                    defined.extend([top.targets[0].id for top in assigned])
                    self.assertTrue(all(alias.name in defined for alias in node.names))
        done = []
        while len(done) < len(graph):
            ready = [n for n in graph if n not in done and all(m in done for m in graph[n])]
            self.assertTrue(ready, "files import one another in a circle")
            done.extend(ready)

    def check_library(self, tree, node):
        """Names of the library are only called, by their bare names, without a star."""
        for alias in node.names:
            self.assertIn(alias.name, LIBRARY[node.module])
            self.assertIsNone(alias.asname)
            used = [part for part in ast.walk(tree) if getattr(part, "id", "") == alias.name]
            calls = [part for part in ast.walk(tree) if isinstance(part, ast.Call)]
            self.assertTrue(used)
            for part in used:
                call = [call for call in calls if call.func is part]
                self.assertEqual(len(call), 1)
                self.assertEqual(call[0].keywords, [])

    def test_errors_that_are_caught_are_own_ones(self):
        for path, tree in trees():
            for node in ast.walk(tree):
                if isinstance(node, ast.Try):
                    self.assertEqual(node.finalbody, [], (path.name, node.lineno))
                    for handler in node.handlers:
                        named = getattr(handler.type, "elts", [handler.type])
                        for name in named:
                            self.assertIn(name.id, own_names(ast.ClassDef), path.name)

    def test_operators_and_properties_change_nothing(self):
        names = ("__eq__", "__len__", "__contains__", "__add__")
        for path, tree in trees():
            for node in ast.walk(tree):
                if isinstance(node, ast.FunctionDef):
                    decorators = [decorator.id for decorator in node.decorator_list]
                    if node.name in names or "property" in decorators:
                        rows = [row for row in node.body if not isinstance(row, ast.Expr)]
                        self.assertEqual(len(rows), 1, (path.name, node.name))
                        self.assertIsInstance(rows[0], ast.Return, (path.name, node.name))

    def test_calls(self):
        functions = own_names(ast.FunctionDef)
        classes = own_names(ast.ClassDef)
        for path, tree in trees():
            for node in ast.walk(tree):
                if not isinstance(node, ast.Call):
                    continue
                place = (path.name, node.lineno)
                if isinstance(node.func, ast.Name):
                    names = functions + classes + BUILTINS + list(LIBRARY["math"]) + PASSED
                    self.assertIn(node.func.id, names, place)
                else:
                    self.assertIsInstance(node.func, ast.Attribute, place)
                    self.assertIn(node.func.attr, functions + METHODS + ["__init__"], place)

    def test_names_have_one_meaning(self):
        for path, tree in trees():
            taken = [node.name for node in tree.body if isinstance(node, ast.ClassDef)]
            for node in tree.body:
                if isinstance(node, ast.ImportFrom):
                    taken.extend([alias.name for alias in node.names])
            for node in ast.walk(tree):
                if isinstance(node, ast.Name) and isinstance(node.ctx, ast.Store):
                    self.assertNotIn(node.id, taken + BUILTINS, (path.name, node.lineno))
                if isinstance(node, ast.arg):
                    self.assertNotIn(node.arg, taken + BUILTINS, (path.name, node.lineno))
                if isinstance(node, (ast.FunctionDef, ast.ClassDef)):
                    self.assertNotIn(node.name, BUILTINS, (path.name, node.lineno))

    def test_classes(self):
        for path, tree in trees():
            for node in ast.walk(tree):
                if isinstance(node, ast.FunctionDef):
                    names = [decorator.id for decorator in node.decorator_list]
                    self.assertIn(names, ([], ["staticmethod"], ["property"]), (path.name, node.name))
                    if node.name.startswith("__"):
                        self.assertIn(node.name, DOUBLE, path.name)
                if isinstance(node, ast.ClassDef):
                    self.assertEqual((node.decorator_list, node.keywords), ([], []))
                    self.check_attributes(path, node)

    def check_attributes(self, path, node):
        methods = [part.name for part in node.body if isinstance(part, ast.FunctionDef)]
        self.assertEqual(len(methods), len(set(methods)), (path.name, node.name))
        for part in ast.walk(node):
            if isinstance(part, ast.Attribute) and isinstance(part.ctx, ast.Store):
                self.assertNotIn(part.attr, methods, (path.name, node.name))

    def test_raise_creates_its_error(self):
        errors = ast.parse((FOLDER / "errors.py").read_text("ascii"))
        names = [node.name for node in errors.body if isinstance(node, ast.ClassDef)]
        for path, tree in trees():
            for node in ast.walk(tree):
                if isinstance(node, ast.Raise):
                    self.assertIsInstance(node.exc, ast.Call, (path.name, node.lineno))
                    self.assertIn(node.exc.func.id, names, (path.name, node.lineno))
                    self.assertIsNone(node.cause)

    def test_is_stands_beside_none_alone(self):
        for path, tree in trees():
            for node in ast.walk(tree):
                if isinstance(node, ast.Compare):
                    for sign, right in zip(node.ops, node.comparators):
                        if isinstance(sign, (ast.Is, ast.IsNot)):
                            self.assertIsInstance(right, ast.Constant, (path.name, node.lineno))

    def test_attributes_that_are_read_are_assigned(self):
        stored, read = [], []
        for _, tree in trees():
            for node in ast.walk(tree):
                if isinstance(node, ast.Attribute):
                    (stored if isinstance(node.ctx, ast.Store) else read).append(node.attr)
                if isinstance(node, ast.ClassDef):
                    for part in node.body:
                        if isinstance(part, ast.Assign):
                            stored.append(part.targets[0].id)
        known = stored + own_names(ast.FunctionDef) + METHODS
        self.assertEqual(sorted(set(read) - set(known)), [])


if __name__ == "__main__":
    unittest.main()

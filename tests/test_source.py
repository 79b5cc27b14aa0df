"""What can be read off the source of the package: its files, its sizes, its imports and its words."""

import ast
import builtins
import re
import unittest
import warnings
from pathlib import Path

PACKAGE = Path(__file__).resolve().parent.parent / "notesttells"
LIBRARY = {
    "heapq": {"heappush", "heappop", "heapify", "heapreplace", "heappushpop"},
    "math": {"gcd", "lcm", "isqrt", "comb", "perm", "factorial"},
    "itertools": {
        "product", "combinations", "permutations", "chain", "accumulate", "pairwise", "islice", "zip_longest",
    },
    "collections": {"defaultdict"},
}
BUILTINS = set(
    "len range enumerate zip min max sum abs sorted reversed int str bool bytes list tuple dict set frozenset"
    " isinstance ord repr any all divmod pow iter next map getattr hasattr setattr super property staticmethod"
    " classmethod Exception ValueError TypeError KeyError IndexError LookupError ZeroDivisionError ArithmeticError"
    " OverflowError RuntimeError NotImplementedError AttributeError StopIteration NotImplemented".split()
)


def sources():
    return sorted(PACKAGE.rglob("*.py"))


def trees():
    return [(path, ast.parse(path.read_text("utf-8"))) for path in sources()]


class Source(unittest.TestCase):
    def test_only_python_files_with_lower_case_names(self):
        self.assertTrue((PACKAGE / "__init__.py").is_file())
        for path in PACKAGE.rglob("*"):
            if "__pycache__" not in path.parts and path.is_file():
                self.assertRegex(path.name, r"^[a-z_][a-z0-9_]*\.py$")

    def test_characters_and_lengths(self):
        for path in sources():
            text = path.read_text("utf-8")
            self.assertRegex(text, r"\A[\n -~]*\Z", path.name)
            lines = text.splitlines()
            self.assertLessEqual(len(lines), 399, path.name)
            self.assertLessEqual(max(len(line) for line in lines), 120, path.name)

    def test_python_warns_of_nothing(self):
        with warnings.catch_warnings():
            warnings.simplefilter("error")
            for path in sources():
                compile(path.read_text("utf-8"), path.name, "exec")

    def test_functions_are_short(self):
        for path, tree in trees():
            for node in ast.walk(tree):
                if isinstance(node, ast.FunctionDef):
                    self.assertLessEqual(node.end_lineno - node.lineno + 1, 40, (path.name, node.name))

    def test_imports(self):
        for path, tree in trees():
            for node in ast.walk(tree):
                self.assertNotIsInstance(node, ast.Import, path.name)
                if isinstance(node, ast.ImportFrom):
                    self.assertIn(node, tree.body)
                    self.assertEqual(node.level, 0)
                    for alias in node.names:
                        self.assertIsNone(alias.asname)
                        if node.module in LIBRARY:
                            self.assertIn(alias.name, LIBRARY[node.module])
                        else:
                            self.assertTrue(self.defines(node.module, alias.name), (node.module, alias.name))

    def defines(self, module, name):
        """True if this file of the package itself binds the name."""
        top, *rest = module.split(".")
        if top != PACKAGE.name:
            return False
        tree = ast.parse(PACKAGE.joinpath(*rest).with_suffix(".py").read_text("utf-8"))
        names = [getattr(node, "name", None) for node in tree.body]
        names += [node.targets[0].id for node in tree.body if isinstance(node, ast.Assign)]
        return name in names

    def test_no_other_builtin(self):
        known = set(dir(builtins))
        for path, tree in trees():
            for node in ast.walk(tree):
                if isinstance(node, ast.Name) and node.id in known:
                    self.assertIn(node.id, BUILTINS, (path.name, node.lineno))
                    self.assertIsInstance(node.ctx, ast.Load)

    def test_no_division_no_float_no_percent(self):
        for path, tree in trees():
            for node in ast.walk(tree):
                self.assertNotIsInstance(node, (ast.Div, ast.Global, ast.AsyncFunctionDef, ast.Await), path.name)
                if isinstance(node, ast.Constant):
                    self.assertNotIsInstance(node.value, (float, complex))
                    if isinstance(node.value, str):
                        self.assertNotIn("%", node.value)

    def test_no_generators_where_lists_are_asked_for(self):
        for path, tree in trees():
            for node in ast.walk(tree):
                self.assertNotIsInstance(node, (ast.GeneratorExp, ast.Yield, ast.YieldFrom), path.name)

    def test_no_sets_and_no_decorators(self):
        for path, tree in trees():
            for node in ast.walk(tree):
                self.assertNotIsInstance(node, (ast.Set, ast.SetComp), path.name)
                self.assertEqual(getattr(node, "decorator_list", []), [])

    def test_no_local_name_of_a_class_or_an_import_or_a_function(self):
        for path, tree in trees():
            bound = [alias.name for node in tree.body if isinstance(node, ast.ImportFrom) for alias in node.names]
            bound += [node.name for node in tree.body if isinstance(node, (ast.FunctionDef, ast.ClassDef))]
            self.assertEqual(len(set(bound)), len(bound), path.name)
            for node in ast.walk(tree):
                if isinstance(node, ast.arg):
                    self.assertNotIn(node.arg, bound, (path.name, node.lineno))
                if isinstance(node, ast.Name) and isinstance(node.ctx, ast.Store):
                    self.assertNotIn(node.id, bound, (path.name, node.lineno))

    def test_what_is_called_with_a_star(self):
        own = {node.name for _, tree in trees() for node in tree.body if hasattr(node, "name")}
        for path, tree in trees():
            for node in ast.walk(tree):
                if isinstance(node, ast.Call) and any(isinstance(arg, ast.Starred) for arg in node.args):
                    self.assertIn(node.func.id, own | {"zip", "max", "min"}, (path.name, node.lineno))
                    for arg in node.args:
                        if isinstance(arg, ast.Starred):
                            self.assertIsInstance(arg.value, (ast.Name, ast.Attribute), (path.name, node.lineno))

    def test_no_name_is_a_method_and_an_attribute(self):
        """But for those that the interface asks for, of different classes."""
        methods, attributes = {}, {}
        for path, tree in trees():
            for node in ast.walk(tree):
                if isinstance(node, ast.ClassDef):
                    for part in node.body:
                        if isinstance(part, ast.FunctionDef):
                            methods[part.name] = path.name
                if isinstance(node, ast.Attribute) and isinstance(node.ctx, ast.Store):
                    attributes[node.attr] = path.name
        self.assertEqual(set(methods) & set(attributes), {"buttons", "answers"})

    def test_words_that_are_not_used(self):
        barred = re.compile(r"\b(type|typing|enum|Enum|ABC|namedtuple|NamedTuple|register|open|input|eval|exec|law)\b")
        for path, tree in trees():
            for node in ast.walk(tree):
                for field in ("id", "attr", "name", "arg"):
                    word = getattr(node, field, None)
                    if isinstance(word, str):
                        self.assertIsNone(barred.fullmatch(word), (path.name, word))


if __name__ == "__main__":
    unittest.main()

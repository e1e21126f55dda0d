"""Tests of the form of the package's files.

The imports and builtins that are let through give no way to a clock, to random
numbers or to files, so these tests hold point 1 of the document, too.
"""

import ast
import builtins
import pathlib
import unittest

PACKAGE = pathlib.Path(__file__).resolve().parent.parent / "nearvault"

LIBRARY = {
    "heapq": {"heappush", "heappop", "heapify", "heapreplace", "heappushpop"},
    "math": {"gcd", "lcm", "isqrt", "comb", "perm", "factorial"},
    "itertools": {
        "product", "combinations", "permutations", "chain", "accumulate", "pairwise", "islice",
        "zip_longest",
    },
    "collections": {"defaultdict", "deque"},
    "__future__": {"annotations"},
}

ALLOWED_BUILTINS = set(
    """len range enumerate zip min max sum abs sorted reversed int str bool list tuple dict set
    frozenset isinstance ord repr any all divmod pow getattr hasattr setattr iter next map type
    super property staticmethod classmethod Exception ValueError TypeError KeyError IndexError
    LookupError ZeroDivisionError ArithmeticError OverflowError RuntimeError
    NotImplementedError AttributeError StopIteration NotImplemented""".split()
)


def files():
    return sorted(PACKAGE.rglob("*.py"))


def tree(path):
    return ast.parse(path.read_text(encoding="utf-8"))


def functions(path):
    return [node for node in ast.walk(tree(path)) if isinstance(node, ast.FunctionDef)]


def names_defined_in(path):
    names = set()
    for node in tree(path).body:
        if isinstance(node, (ast.FunctionDef, ast.ClassDef)):
            names.add(node.name)
        elif isinstance(node, ast.Assign):
            names.update(target.id for target in node.targets)
    return names


class FormTest(unittest.TestCase):
    def test_the_package_has_files(self):
        self.assertIn(PACKAGE / "__init__.py", files())
        self.assertIn(PACKAGE / "device.py", files())

    def test_the_folder_contains_nothing_else(self):
        for path in PACKAGE.rglob("*"):
            if "__pycache__" not in path.parts:
                self.assertTrue(path.is_dir() or path.suffix == ".py", path)

    def test_characters_and_sizes(self):
        for path in files():
            lines = path.read_text(encoding="utf-8").split("\n")
            self.assertLessEqual(len(lines) - 1, 399, path)
            for k, line in enumerate(lines, start=1):
                self.assertLessEqual(len(line), 120, (path, k))
                self.assertTrue(all(" " <= sign <= "~" for sign in line), (path, k))

    def test_functions_are_small(self):
        for path in files():
            for function in functions(path):
                many = function.end_lineno - function.lineno + 1
                self.assertLessEqual(many, 40, (path, function.name))

    def test_imports(self):
        for path in files():
            for node in ast.walk(tree(path)):
                self.assertNotIsInstance(node, ast.Import, path)
                if isinstance(node, ast.ImportFrom):
                    self.check_import(path, node)

    def check_import(self, path, node):
        self.assertEqual(node.level, 0, path)
        if node.module in LIBRARY:
            allowed = LIBRARY[node.module]
        else:
            self.assertEqual(node.module.split(".")[0], "nearvault", path)
            allowed = names_defined_in(PACKAGE.parent / (node.module.replace(".", "/") + ".py"))
        for alias in node.names:
            self.assertIn(alias.name, allowed, path)

    def test_builtins(self):
        for path in files():
            for node in ast.walk(tree(path)):
                if isinstance(node, ast.Name) and hasattr(builtins, node.id):
                    self.assertIn(node.id, ALLOWED_BUILTINS, (path, node.lineno))


if __name__ == "__main__":
    unittest.main()

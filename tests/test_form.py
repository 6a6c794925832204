"""What holds for all files: exact computations, no clock, no chance, no files (point 1)."""

import ast
import builtins
import os
import unittest

FOLDER = os.path.join(os.path.dirname(os.path.dirname(os.path.abspath(__file__))), "phasor")

LIBRARY = {
    "heapq": {"heappush", "heappop", "heapify", "heapreplace", "heappushpop"},
    "math": {"gcd", "lcm", "isqrt", "comb", "perm", "factorial"},
    "itertools": {"product", "combinations", "permutations", "chain", "accumulate",
                  "pairwise", "islice", "zip_longest"},
    "collections": {"defaultdict"},
    "__future__": {"annotations"},
}

# The builtins that the language of the program allows; none reads or writes anything.
ALLOWED = set("""
    len range enumerate zip min max sum abs sorted reversed int str bool bytes list tuple
    dict set frozenset isinstance ord repr any all divmod pow getattr hasattr setattr iter
    next map property staticmethod classmethod super object float Exception ValueError
    TypeError KeyError IndexError LookupError ZeroDivisionError ArithmeticError
    OverflowError RuntimeError NotImplementedError AttributeError StopIteration
    NotImplemented
""".split())


def package_files():
    result = []
    for folder, folders, files in os.walk(FOLDER):
        folders[:] = [name for name in folders if name != "__pycache__"]
        result.extend(os.path.join(folder, name) for name in files)
    return sorted(result)


def read(path):
    with open(path, encoding="utf-8") as file:
        return file.read()


class FormTest(unittest.TestCase):
    def trees(self):
        for path in package_files():
            name = os.path.basename(path)
            if name != "__main__.py":
                yield name, ast.parse(read(path))

    def test_only_python_files(self):
        paths = package_files()
        self.assertIn(os.path.join(FOLDER, "__init__.py"), paths)
        for path in paths:
            name = os.path.basename(path)
            self.assertTrue(name.endswith(".py") and name == name.lower(), path)

    def test_characters_and_sizes(self):
        for path in package_files():
            text = read(path)
            self.assertTrue(all(c == "\n" or " " <= c <= "~" for c in text), path)
            lines = text.splitlines()
            self.assertLessEqual(len(lines), 399, path)
            self.assertLessEqual(max([len(line) for line in lines], default=0), 120, path)

    def test_short_functions(self):
        for name, tree in self.trees():
            for node in ast.walk(tree):
                if isinstance(node, ast.FunctionDef):
                    lines = node.end_lineno - node.lineno + 1
                    self.assertLessEqual(lines, 40, (name, node.name))

    def test_imports(self):
        for name, tree in self.trees():
            for node in ast.walk(tree):
                self.assertNotIsInstance(node, ast.Import, name)
                if isinstance(node, ast.ImportFrom):
                    self.assertEqual(node.level, 0, name)
                    if not node.module.startswith("phasor."):
                        words = {alias.name for alias in node.names}
                        self.assertLessEqual(words, LIBRARY.get(node.module, set()), name)

    def test_exact_numbers(self):
        for name, tree in self.trees():
            for node in ast.walk(tree):
                if isinstance(node, ast.Constant):
                    self.assertNotIsInstance(node.value, (float, complex), name)
                self.assertNotIsInstance(node, ast.Div, name)

    def test_builtins(self):
        known = set(dir(builtins))
        for name, tree in self.trees():
            for node in ast.walk(tree):
                if isinstance(node, ast.Name) and node.id in known:
                    self.assertIn(node.id, ALLOWED, name)


if __name__ == "__main__":
    unittest.main()

"""What holds for all files: exact computations, no clock, no chance, no files
(point 1); and the rules of form that can be read off the code."""

import ast
import builtins
import os
import unittest

FOLDER = os.path.join(os.path.dirname(os.path.dirname(os.path.abspath(__file__))), "phasor")

LIBRARY = {
    "heapq": {"heappush", "heappop", "heapify", "heapreplace", "heappushpop"},
    "math": {"gcd", "lcm", "isqrt", "comb", "perm", "factorial"},
    "itertools": {"product", "combinations", "permutations", "chain", "accumulate",
                  "pairwise", "islice", "zip_longest"},
    "collections": {"defaultdict"},
    "__future__": {"annotations"},
}

# The builtins that the language of the program allows; none reads or writes anything.
ALLOWED = set("""
    len range enumerate zip min max sum abs sorted reversed int str bool bytes list tuple
    dict set frozenset isinstance ord repr any all divmod pow getattr hasattr setattr iter
    next map property staticmethod classmethod super object float Exception ValueError
    TypeError KeyError IndexError LookupError ZeroDivisionError ArithmeticError
    OverflowError RuntimeError NotImplementedError AttributeError StopIteration
    NotImplemented
""".split())


def package_files():
    result = []
    for folder, folders, files in os.walk(FOLDER):
        folders[:] = [name for name in folders if name != "__pycache__"]
        result.extend(os.path.join(folder, name) for name in files)
    return sorted(result)


def read(path):
    with open(path, encoding="utf-8") as file:
        return file.read()


class FormTest(unittest.TestCase):
    def trees(self):
        for path in package_files():
            name = os.path.basename(path)
            if name != "__main__.py":
                yield name, ast.parse(read(path))

    def test_only_python_files(self):
        paths = package_files()
        self.assertIn(os.path.join(FOLDER, "__init__.py"), paths)
        for path in paths:
            name = os.path.basename(path)
            self.assertTrue(name.endswith(".py") and name == name.lower(), path)

    def test_characters_and_sizes(self):
        for path in package_files():
            text = read(path)
            self.assertTrue(all(c == "\n" or " " <= c <= "~" for c in text), path)
            lines = text.splitlines()
            self.assertLessEqual(len(lines), 399, path)
            self.assertLessEqual(max([len(line) for line in lines], default=0), 120, path)

    def test_short_functions(self):
        for name, tree in self.trees():
            for node in ast.walk(tree):
                if isinstance(node, ast.FunctionDef):
                    lines = node.end_lineno - node.lineno + 1
                    self.assertLessEqual(lines, 40, (name, node.name))

    def test_imports(self):
        for name, tree in self.trees():
            for node in ast.walk(tree):
                self.assertNotIsInstance(node, ast.Import, name)
                if isinstance(node, ast.ImportFrom):
                    self.assertEqual(node.level, 0, name)
                    if not node.module.startswith("phasor."):
                        words = {alias.name for alias in node.names}
                        self.assertLessEqual(words, LIBRARY.get(node.module, set()), name)

    def test_exact_numbers(self):
        for name, tree in self.trees():
            for node in ast.walk(tree):
                if isinstance(node, ast.Constant):
                    self.assertNotIsInstance(node.value, (float, complex), name)
                self.assertNotIsInstance(node, ast.Div, name)

    def test_builtins(self):
        known = set(dir(builtins))
        for name, tree in self.trees():
            for node in ast.walk(tree):
                if isinstance(node, ast.Name) and node.id in known:
                    self.assertIn(node.id, ALLOWED, name)


# The methods of builtin values that the language of the program allows.
METHODS = set("""
    append clear copy count endswith extend find get index insert isalnum isalpha isdigit
    islower isspace isupper items join keys ljust lower lstrip partition pop remove replace
    reverse rfind rjust rpartition rsplit rstrip setdefault split splitlines startswith strip
    update upper values zfill bit_length add discard
""".split())

# Names that stand nowhere in the program.
BARRED = set("""
    register mro elements open input law version_info with_traceback add_note attrgetter
    breakpoint builtins compile copyright credits delattr dir eval exec exit gc globals help
    id importlib license locals methodcaller os quit type vars sys
""".split())


class NamesTest(unittest.TestCase):
    def setUp(self):
        self.trees = {
            os.path.basename(path)[:-3]: ast.parse(read(path)) for path in package_files()}

    def nodes(self, *kinds):
        for name, tree in self.trees.items():
            for node in ast.walk(tree):
                if isinstance(node, kinds):
                    yield name, node

    def classes(self):
        return [node for _, node in self.nodes(ast.ClassDef)]

    def methods(self):
        return [
            node for found in self.classes() for node in found.body
            if isinstance(node, ast.FunctionDef)]

    def stored_attributes(self):
        return {node.attr for _, node in self.nodes(ast.Attribute)
                if isinstance(node.ctx, ast.Store)}

    def test_imports_name_the_defining_file(self):
        edges = {}
        for name, node in self.nodes(ast.ImportFrom):
            if not node.module.startswith("phasor."):
                continue
            source = node.module.split(".")[1]
            edges.setdefault(name, set()).add(source)
            defined = set()
            for statement in self.trees[source].body:
                if isinstance(statement, (ast.FunctionDef, ast.ClassDef)):
                    defined.add(statement.name)
                if isinstance(statement, ast.Assign):
                    defined.update(target.id for target in statement.targets)
            for alias in node.names:
                self.assertIsNone(alias.asname, name)
                self.assertIn(alias.name, defined, name)
        # No two files import from each other: those without imports are taken away in turn.
        left = set(self.trees)
        while left:
            free = {name for name in left if not edges.get(name, set()) & left}
            self.assertTrue(free, left)
            left -= free

    def test_imports_are_used(self):
        for name, tree in self.trees.items():
            used = {node.id for node in ast.walk(tree) if isinstance(node, ast.Name)}
            for node in tree.body:
                if isinstance(node, ast.ImportFrom):
                    for alias in node.names:
                        self.assertIn(alias.name, used, name)

    def test_local_names(self):
        known = set(dir(builtins))
        for name, tree in self.trees.items():
            taken = {alias.name for node in tree.body if isinstance(node, ast.ImportFrom)
                     for alias in node.names}
            taken |= {node.name for node in tree.body
                      if isinstance(node, (ast.FunctionDef, ast.ClassDef))}
            for function in ast.walk(tree):
                if isinstance(function, (ast.FunctionDef, ast.Lambda)):
                    names = {node.arg for node in ast.walk(function) if isinstance(node, ast.arg)}
                    names |= {node.id for node in ast.walk(function)
                              if isinstance(node, ast.Name) and isinstance(node.ctx, ast.Store)}
                    self.assertFalse(names & (taken | known), (name, names & (taken | known)))

    def test_barred_names(self):
        for name, node in self.nodes(ast.Name, ast.Attribute, ast.arg, ast.keyword,
                                     ast.FunctionDef, ast.ClassDef):
            for field in ("id", "attr", "arg", "name"):
                self.assertNotIn(getattr(node, field, None), BARRED, name)

    def test_methods(self):
        own = {node.name for node in self.methods()}
        self.assertFalse(own & METHODS & {"sort", "items", "keys", "values"})
        for name, node in self.nodes(ast.Call):
            if isinstance(node.func, ast.Attribute) and node.func.attr not in own:
                self.assertTrue(node.func.attr in METHODS or node.func.attr == "__init__",
                                (name, node.func.attr))

    def test_attributes(self):
        """No attribute has the name of a method or a property."""
        self.assertFalse(self.stored_attributes() & {node.name for node in self.methods()})

    def test_decorators(self):
        for name, node in self.nodes(ast.FunctionDef):
            for decorator in node.decorator_list:
                self.assertEqual(ast.unparse(decorator), "property", name)

    def test_module_level(self):
        for name, tree in self.trees.items():
            for node in tree.body:
                docstring = isinstance(node, ast.Expr) and isinstance(node.value, ast.Constant)
                plain = (ast.ImportFrom, ast.FunctionDef, ast.ClassDef, ast.Assign)
                self.assertTrue(docstring or isinstance(node, plain), (name, node.lineno))

    def test_comparisons_by_is(self):
        for name, node in self.nodes(ast.Compare):
            if any(isinstance(sign, (ast.Is, ast.IsNot)) for sign in node.ops):
                last = node.comparators[-1]
                self.assertIsInstance(last, ast.Constant, name)
                self.assertIn(last.value, (None, True, False), name)

    def test_strings(self):
        for name, node in self.nodes(ast.Constant):
            if isinstance(node.value, str):
                self.assertNotIn("%", node.value, name)

    def test_statements(self):
        for name, node in self.nodes(ast.Global, ast.AsyncFunctionDef, ast.Yield, ast.YieldFrom,
                                     ast.GeneratorExp, ast.Pow, ast.NamedExpr, ast.AnnAssign):
            self.fail((name, node))


if __name__ == "__main__":
    unittest.main()

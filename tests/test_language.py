"""The rules of the language that can be counted: files, sizes, imports, builtins, methods, names."""

import ast
import builtins
import pathlib
import unittest

PACKAGE = pathlib.Path(__file__).resolve().parent.parent / "lanescounted"
FILES = sorted(path for path in PACKAGE.rglob("*") if path.is_file() and path.suffix != ".pyc")
LIBRARY = {
    "heapq": ("heappush", "heappop", "heapify", "heapreplace", "heappushpop"),
    "math": ("gcd", "lcm", "isqrt", "comb", "perm", "factorial"),
    "itertools": (
        "product", "combinations", "permutations", "chain", "accumulate", "pairwise", "islice", "zip_longest",
    ),
    "collections": ("defaultdict",),
}
BUILTINS = (
    "len range enumerate zip min max sum abs sorted reversed int str bool list tuple dict set isinstance ord repr any "
    "all divmod pow map iter next getattr hasattr setattr super property staticmethod classmethod Exception ValueError "
    "TypeError KeyError IndexError LookupError ZeroDivisionError ArithmeticError OverflowError RuntimeError "
    "NotImplementedError AttributeError StopIteration NotImplemented"
).split()
NEVER = (
    "register mro elements open input law version_info with_traceback add_note attrgetter breakpoint compile copyright "
    "credits delattr dir eval exec exit gc globals help id importlib license locals methodcaller os quit vars typing"
).split()


def trees():
    """Return (path, text, tree) of all files of the package."""
    return [(path, path.read_text(encoding="ascii"), ast.parse(path.read_text(encoding="ascii"))) for path in FILES]


def nodes(tree, *kinds):
    """Return all nodes of these kinds."""
    return [node for node in ast.walk(tree) if isinstance(node, kinds)]


def bound_names(tree):
    """Return all names that are assigned, defined or taken as parameters."""
    names = [node.id for node in nodes(tree, ast.Name) if not isinstance(node.ctx, ast.Load)]
    names += [node.name for node in nodes(tree, ast.FunctionDef, ast.ClassDef)]
    return names + [node.arg for node in nodes(tree, ast.arg)]


class Language(unittest.TestCase):
    def test_the_folder_holds_plain_files_alone(self):
        self.assertIn(PACKAGE / "__init__.py", FILES)
        for path in FILES:
            self.assertEqual(path.suffix, ".py")
            self.assertEqual(path.name, path.name.lower())

    def test_sizes(self):
        for path, text, tree in trees():
            self.assertLessEqual(len(text.splitlines()), 399, path)
            self.assertLessEqual(max(map(len, text.splitlines())), 120, path)
            for node in nodes(tree, ast.FunctionDef):
                self.assertLessEqual(node.end_lineno - node.lineno + 1, 40, (path, node.name))

    def test_characters(self):
        for path, text, _ in trees():
            self.assertTrue(all(" " <= character <= "~" or character == "\n" for character in text), path)

    def test_imports(self):
        for path, _, tree in trees():
            self.assertEqual([], nodes(tree, ast.Import) if path.name != "__main__.py" else [])
            for node in nodes(tree, ast.ImportFrom):
                self.assertIn(node, tree.body)
                self.assertEqual(node.level, 0)
                if not node.module.startswith("lanescounted."):
                    for name in node.names:
                        self.assertIn(name.name, LIBRARY[node.module])
                        self.assertIsNone(name.asname)

    def test_names_are_imported_from_the_file_that_defines_them(self):
        defined = {path.stem: bound_names(tree) for path, _, tree in trees()}
        for path, _, tree in trees():
            for node in nodes(tree, ast.ImportFrom):
                for name in node.names if node.module.startswith("lanescounted.") else []:
                    self.assertIn(name.name, defined[node.module.split(".")[1]], path)

    def test_builtins(self):
        for path, _, tree in trees():
            for node in nodes(tree, ast.Name):
                if hasattr(builtins, node.id):
                    self.assertIn(node.id, BUILTINS, (path, node.lineno))
            for name in bound_names(tree):
                self.assertFalse(hasattr(builtins, name) and not name.startswith("__"), (path, name))
                self.assertNotIn(name, NEVER, path)

    def test_one_binding_for_each_name_at_module_level(self):
        for path, _, tree in trees():
            names = [alias.name for node in nodes(tree, ast.ImportFrom) for alias in node.names]
            for node in tree.body:
                if isinstance(node, (ast.FunctionDef, ast.ClassDef)):
                    names.append(node.name)
                elif isinstance(node, ast.Assign):
                    names += [target.id for target in node.targets]
                else:
                    self.assertIsInstance(node, (ast.ImportFrom, ast.Expr, ast.If), (path, node.lineno))
            self.assertEqual(sorted(names), sorted(set(names)), path)

    def test_statements_and_values_that_are_not_used(self):
        barred = (ast.Global, ast.Div, ast.AsyncFunctionDef, ast.Await, ast.AnnAssign)
        for path, _, tree in trees():
            self.assertEqual(nodes(tree, *barred), [], path)
            for node in nodes(tree, ast.Constant):
                self.assertNotIsInstance(node.value, (float, complex), (path, node.lineno))
            for node in nodes(tree, ast.Compare):
                for operator, other in zip(node.ops, node.comparators):
                    if isinstance(operator, (ast.Is, ast.IsNot)):
                        self.assertIsInstance(other, ast.Constant, (path, node.lineno))

    def test_builtins_that_read_all_take_lists(self):
        # A class of the document's interface has its own ==, and beside one these take no generator expression.
        for path, _, tree in trees():
            for node in nodes(tree, ast.Call):
                if isinstance(node.func, ast.Name) and node.func.id in ("any", "all", "min", "max", "sum", "sorted"):
                    kinds = [isinstance(thing, ast.GeneratorExp) for thing in node.args]
                    self.assertNotIn(True, kinds, (path, node.lineno))


if __name__ == "__main__":
    unittest.main()

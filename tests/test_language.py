"""The rules of the language that can be counted: files, sizes, imports, builtins, methods, names."""

import ast
import builtins
import pathlib
import unittest

from test_interface import FUNCTIONS

INTERFACE = [name for functions in FUNCTIONS.values() for name in functions]
PACKAGE = pathlib.Path(__file__).resolve().parent.parent / "lanescounted"
FILES = sorted(path for path in PACKAGE.rglob("*") if path.is_file() and path.suffix != ".pyc")
LIBRARY = {
    "heapq": ("heappush", "heappop", "heapify", "heapreplace", "heappushpop"),
    "math": ("gcd", "lcm", "isqrt", "comb", "perm", "factorial"),
    "itertools": (
        "product", "combinations", "permutations", "chain", "accumulate", "pairwise", "islice", "zip_longest",
    ),
    "collections": ("defaultdict",),
}
BUILTINS = (
    "len range enumerate zip min max sum abs sorted reversed int str bool list tuple dict set isinstance ord repr any "
    "all divmod pow map iter next getattr hasattr setattr super property staticmethod classmethod Exception ValueError "
    "TypeError KeyError IndexError LookupError ZeroDivisionError ArithmeticError OverflowError RuntimeError "
    "NotImplementedError AttributeError StopIteration NotImplemented"
).split()
NEVER = (
    "register mro elements open input law version_info with_traceback add_note attrgetter breakpoint compile copyright "
    "credits delattr dir eval exec exit gc globals help id importlib license locals methodcaller os quit vars typing"
).split()


def trees():
    """Return (path, text, tree) of all files of the package."""
    return [(path, path.read_text(encoding="ascii"), ast.parse(path.read_text(encoding="ascii"))) for path in FILES]


def nodes(tree, *kinds):
    """Return all nodes of these kinds."""
    return [node for node in ast.walk(tree) if isinstance(node, kinds)]


def bound_names(tree):
    """Return all names that are assigned, defined or taken as parameters."""
    names = [node.id for node in nodes(tree, ast.Name) if not isinstance(node.ctx, ast.Load)]
    names += [node.name for node in nodes(tree, ast.FunctionDef, ast.ClassDef)]
    return names + [node.arg for node in nodes(tree, ast.arg)]


class Language(unittest.TestCase):
    def test_the_folder_holds_plain_files_alone(self):
        self.assertIn(PACKAGE / "__init__.py", FILES)
        for path in FILES:
            self.assertEqual(path.suffix, ".py")
            self.assertEqual(path.name, path.name.lower())

    def test_sizes(self):
        for path, text, tree in trees():
            self.assertLessEqual(len(text.splitlines()), 399, path)
            self.assertLessEqual(max(map(len, text.splitlines())), 120, path)
            for node in nodes(tree, ast.FunctionDef):
                self.assertLessEqual(node.end_lineno - node.lineno + 1, 40, (path, node.name))

    def test_characters(self):
        for path, text, _ in trees():
            self.assertTrue(all(" " <= character <= "~" or character == "\n" for character in text), path)

    def test_imports(self):
        for path, _, tree in trees():
            self.assertEqual([], nodes(tree, ast.Import) if path.name != "__main__.py" else [])
            for node in nodes(tree, ast.ImportFrom):
                self.assertIn(node, tree.body)
                self.assertEqual(node.level, 0)
                if not node.module.startswith("lanescounted."):
                    for name in node.names:
                        self.assertIn(name.name, LIBRARY[node.module])
                        self.assertIsNone(name.asname)

    def test_names_are_imported_from_the_file_that_defines_them(self):
        defined = {path.stem: bound_names(tree) for path, _, tree in trees()}
        for path, _, tree in trees():
            for node in nodes(tree, ast.ImportFrom):
                for name in node.names if node.module.startswith("lanescounted.") else []:
                    self.assertIn(name.name, defined[node.module.split(".")[1]], path)

    def test_builtins(self):
        for path, _, tree in trees():
            for node in nodes(tree, ast.Name):
                if hasattr(builtins, node.id):
                    self.assertIn(node.id, BUILTINS, (path, node.lineno))
            for name in bound_names(tree):
                self.assertFalse(hasattr(builtins, name) and not name.startswith("__"), (path, name))
                self.assertNotIn(name, NEVER, path)

    def test_one_binding_for_each_name_at_module_level(self):
        for path, _, tree in trees():
            names = [alias.name for node in nodes(tree, ast.ImportFrom) for alias in node.names]
            for node in tree.body:
                if isinstance(node, (ast.FunctionDef, ast.ClassDef)):
                    names.append(node.name)
                elif isinstance(node, ast.Assign):
                    names += [target.id for target in node.targets]
                else:
                    self.assertIsInstance(node, (ast.ImportFrom, ast.Expr, ast.If), (path, node.lineno))
            self.assertEqual(sorted(names), sorted(set(names)), path)

    def test_statements_and_values_that_are_not_used(self):
        barred = (ast.Global, ast.Div, ast.AsyncFunctionDef, ast.Await, ast.AnnAssign)
        for path, _, tree in trees():
            self.assertEqual(nodes(tree, *barred), [], path)
            for node in nodes(tree, ast.Constant):
                self.assertNotIsInstance(node.value, (float, complex), (path, node.lineno))
            for node in nodes(tree, ast.Compare):
                for operator, other in zip(node.ops, node.comparators):
                    if isinstance(operator, (ast.Is, ast.IsNot)):
                        self.assertIsInstance(other, ast.Constant, (path, node.lineno))

    def test_builtins_that_read_all_take_lists(self):
        # A class of the document's interface has its own ==, and beside one these take no generator expression.
        for path, _, tree in trees():
            for node in nodes(tree, ast.Call):
                if isinstance(node.func, ast.Name) and node.func.id in ("any", "all", "min", "max", "sum", "sorted"):
                    kinds = [isinstance(thing, ast.GeneratorExp) for thing in node.args]
                    self.assertNotIn(True, kinds, (path, node.lineno))


class Names(unittest.TestCase):
    def test_no_local_name_is_a_class_or_an_import_of_its_file(self):
        for path, _, tree in trees():
            taken = [node.name for node in nodes(tree, ast.ClassDef)]
            taken += [alias.name for node in nodes(tree, ast.ImportFrom) for alias in node.names]
            for function in nodes(tree, ast.FunctionDef):
                names = [node.arg for node in nodes(function, ast.arg)]
                names += [node.id for node in nodes(function, ast.Name) if not isinstance(node.ctx, ast.Load)]
                self.assertEqual(set(names) & set(taken), set(), (path, function.name))

    def test_no_name_is_a_method_and_an_attribute(self):
        methods, attributes = [], []
        for _, _, tree in trees():
            for found in nodes(tree, ast.ClassDef):
                methods += [node.name for node in found.body if isinstance(node, ast.FunctionDef)]
            attributes += [node.attr for node in nodes(tree, ast.Attribute) if not isinstance(node.ctx, ast.Load)]
        self.assertEqual(set(methods) & set(attributes), set())
        for name in ("keys", "items", "values", "update", "append", "args", "encode", "decode", "format"):
            self.assertNotIn(name, methods + attributes)

    def test_each_attribute_that_is_read_is_assigned_or_a_method(self):
        known = dir("") + dir([]) + dir({}) + dir(())
        for _, _, tree in trees():
            known += [node.attr for node in nodes(tree, ast.Attribute) if not isinstance(node.ctx, ast.Load)]
            known += [node.name for node in nodes(tree, ast.FunctionDef)]
        for path, _, tree in trees():
            for node in nodes(tree, ast.Attribute):
                self.assertIn(node.attr, known, (path, node.lineno))

    def test_a_class_that_is_indexed_says_that_it_is_not_iterated(self):
        found = 0
        for _, _, tree in trees():
            for node in nodes(tree, ast.ClassDef):
                bodies = {part.name: part.body for part in node.body if isinstance(part, ast.FunctionDef)}
                if "__getitem__" in bodies:
                    found += 1
                    self.assertEqual([type(part) for part in bodies["__iter__"]], [ast.Raise])
        self.assertEqual(found, 1)

    def test_no_two_files_import_from_each_other(self):
        imports = {
            path.stem: {node.module.split(".")[1] for node in nodes(tree, ast.ImportFrom)
                        if node.module.startswith("lanescounted.")}
            for path, _, tree in trees()
        }
        left = dict(imports)
        while left:
            free = [name for name in left if not imports[name] & set(left)]
            self.assertNotEqual(free, [], left)
            for name in free:
                del left[name]

    def test_each_name_that_is_imported_or_defined_is_used(self):
        used = {
            name for _, _, tree in trees() for node in nodes(tree, ast.Name, ast.Attribute)
            for name in [node.id if isinstance(node, ast.Name) else node.attr]
        }
        for path, _, tree in trees():
            own = {node.id for node in nodes(tree, ast.Name)}
            for node in nodes(tree, ast.ImportFrom):
                for alias in node.names:
                    self.assertIn(alias.name, own, path)
            for node in tree.body:
                if isinstance(node, ast.FunctionDef) and node.name not in INTERFACE:
                    self.assertIn(node.name, used, path)


if __name__ == "__main__":
    unittest.main()

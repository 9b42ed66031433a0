"""The rules of the language that can be read off the files of the package."""

import ast
import builtins
import os
import re
import unittest

import signlines

FOLDER = os.path.dirname(os.path.abspath(signlines.__file__))
LIBRARY = {
    "heapq": {"heappush", "heappop", "heapify", "heapreplace", "heappushpop"},
    "math": {"gcd", "lcm", "isqrt", "comb", "perm", "factorial"},
    "itertools": {"product", "combinations", "permutations", "chain", "accumulate", "pairwise", "islice",
                  "zip_longest"},
    "collections": {"defaultdict"},
    "__future__": {"annotations"},
}
BUILTINS = set(
    "len range enumerate zip min max sum abs sorted reversed int str bool bytes list tuple dict set frozenset"
    " isinstance ord repr any all divmod pow getattr hasattr setattr Exception ValueError TypeError KeyError IndexError"
    " LookupError ZeroDivisionError ArithmeticError OverflowError RuntimeError NotImplementedError AttributeError"
    " StopIteration NotImplemented iter next map property staticmethod classmethod super object float".split()
)
METHODS = set(
    "append clear copy count endswith extend find get index insert isalnum isalpha isdigit islower isspace isupper"
    " items join keys ljust lower lstrip partition pop remove replace reverse rfind rjust rpartition rsplit rstrip"
    " setdefault split splitlines startswith strip update upper values zfill bit_length title capitalize swapcase"
    " casefold center expandtabs removeprefix removesuffix rindex isascii isdecimal isnumeric istitle isidentifier"
    " isprintable translate encode decode hex add discard sort format".split()
)
BARRED = (ast.Global, ast.AsyncFunctionDef, ast.AsyncFor, ast.AsyncWith, ast.Await, ast.Div, ast.MatMult)


def files():
    found = {}
    for name in sorted(os.listdir(FOLDER)):
        if name != "__pycache__":
            with open(os.path.join(FOLDER, name), encoding="utf-8", newline="") as file:
                found[name] = file.read()
    return found


def trees():
    return {name: ast.parse(text) for name, text in files().items()}


def bound(tree):
    """The names that parameters, assignments, loops, functions and classes bind; not those of methods."""
    found = []
    methods = [part for node in ast.walk(tree) if isinstance(node, ast.ClassDef) for part in node.body]
    for node in ast.walk(tree):
        if isinstance(node, ast.arg):
            found.append(node.arg)
        elif isinstance(node, ast.Name) and not isinstance(node.ctx, ast.Load):
            found.append(node.id)
        elif isinstance(node, (ast.FunctionDef, ast.ClassDef)) and node not in methods:
            found.append(node.name)
    return found


def imports(tree):
    return [node for node in tree.body if isinstance(node, ast.ImportFrom)]


class Language(unittest.TestCase):

    def test_files(self):
        for name, text in files().items():
            self.assertRegex(name, r"^[a-z0-9_]+\.py$")
            self.assertLessEqual(len(text.splitlines()), 399, name)
            self.assertRegex(text, re.compile(r"^[\n -~]*$"), name)
            for line in text.splitlines():
                self.assertLessEqual(len(line), 120, (name, line))

    def test_functions_are_small(self):
        for name, tree in trees().items():
            for node in ast.walk(tree):
                if isinstance(node, ast.FunctionDef):
                    self.assertLessEqual(node.end_lineno - node.lineno + 1, 40, (name, node.name))

    def test_imports_name_the_very_file_that_defines_the_name(self):
        all_trees = trees()
        for name, tree in all_trees.items():
            plain = [node for node in ast.walk(tree) if isinstance(node, ast.Import)]
            self.assertEqual(plain, [], name)
            for node in imports(tree):
                self.assertEqual(node.level, 0)
                names = {alias.name for alias in node.names}
                if node.module in LIBRARY:
                    self.assertLessEqual(names, LIBRARY[node.module], name)
                else:
                    self.assertTrue(node.module.startswith("signlines."), (name, node.module))
                    there = all_trees[node.module.split(".")[1] + ".py"]
                    self.assertLessEqual(names, {one for part in there.body for one in bound(part)}, name)

    def test_no_two_files_import_from_each_other(self):
        left = {name: {node.module.split(".")[1] + ".py" for node in imports(tree) if node.module not in LIBRARY}
                for name, tree in trees().items()}
        while left:
            free = [name for name, wants in left.items() if not wants & set(left)]
            self.assertNotEqual(free, [], left)
            for name in free:
                del left[name]

    def test_nothing_stands_at_module_level_but_what_may(self):
        for name, tree in trees().items():
            for node in tree.body:
                docstring = isinstance(node, ast.Expr) and isinstance(node.value, ast.Constant)
                may = (ast.ImportFrom, ast.FunctionDef, ast.ClassDef, ast.Assign)
                self.assertTrue(docstring or isinstance(node, may), (name, node.lineno))

    def test_no_barred_statement_sign_or_number(self):
        for name, tree in trees().items():
            for node in ast.walk(tree):
                self.assertNotIsInstance(node, BARRED, (name, getattr(node, "lineno", None)))
                if isinstance(node, ast.Constant):
                    self.assertNotIsInstance(node.value, (float, complex), (name, node.lineno))
                if isinstance(node, ast.Compare):
                    for sign, right in zip(node.ops, node.comparators):
                        if isinstance(sign, (ast.Is, ast.IsNot)) and isinstance(right, ast.Constant):
                            self.assertIn(right.value, (None, True, False))

    def test_names_of_builtins_imports_and_classes_mean_one_thing(self):
        for name, tree in trees().items():
            taken = {alias.name for node in imports(tree) for alias in node.names}
            for one in bound(tree):
                self.assertNotIn(one, taken, name)
                self.assertFalse(hasattr(builtins, one), (name, one))
            for node in ast.walk(tree):
                if isinstance(node, ast.Name) and hasattr(builtins, node.id):
                    self.assertIn(node.id, BUILTINS, (name, node.lineno))

    def test_methods_are_listed_or_own(self):
        own = {node.name for tree in trees().values() for part in ast.walk(tree) if isinstance(part, ast.ClassDef)
               for node in part.body if isinstance(node, ast.FunctionDef)}
        for name, tree in trees().items():
            for node in ast.walk(tree):
                if isinstance(node, ast.Call) and isinstance(node.func, ast.Attribute):
                    self.assertIn(node.func.attr, METHODS | own | {"maketrans", "from_iterable"}, (name, node.lineno))

    def test_strings(self):
        for name, tree in trees().items():
            for node in ast.walk(tree):
                if isinstance(node, ast.Constant) and isinstance(node.value, str):
                    self.assertNotIn("%", node.value, name)


if __name__ == "__main__":
    unittest.main()

"""The rules of the Python subset that are quickly told from the files: L1, L2, L6, L7, L8, L10, L14, L15, L17."""

import ast
import builtins
import os
import re
import unittest

TOP = os.path.join(os.path.dirname(os.path.abspath(__file__)), os.pardir, "unitlimits")
LIBRARY = {
    "heapq": {"heappush", "heappop", "heapify", "heapreplace", "heappushpop"},
    "math": {"gcd", "lcm", "isqrt", "comb", "perm", "factorial"},
    "itertools": {"product", "combinations", "permutations", "chain", "accumulate", "pairwise", "islice",
                  "zip_longest"},
    "collections": {"defaultdict"},
}
BUILTINS = set("""
    len range enumerate zip min max sum abs sorted reversed int str bool list tuple dict set frozenset isinstance
    ord repr any all divmod pow getattr hasattr setattr map iter next super property staticmethod classmethod
    Exception ValueError TypeError KeyError IndexError LookupError ZeroDivisionError ArithmeticError OverflowError
    RuntimeError NotImplementedError AttributeError StopIteration NotImplemented object float bytes
""".split())
BARRED = {"register", "mro", "elements", "open", "input", "law", "version_info", "with_traceback", "add_note"}
FUNCTIONS = (ast.FunctionDef, ast.AsyncFunctionDef)


def files():
    return sorted(name for name in os.listdir(TOP) if name != "__pycache__")


def texts():
    for name in files():
        with open(os.path.join(TOP, name), encoding="utf-8", newline="") as held:
            yield name, held.read()


def nodes():
    for name, text in texts():
        for node in ast.walk(ast.parse(text)):
            yield name, node


def bound_names(node):
    """The names that a part of a file gives to something."""
    if isinstance(node, FUNCTIONS + (ast.ClassDef,)):
        return [node.name]
    if isinstance(node, ast.arg):
        return [node.arg]
    if isinstance(node, ast.Name) and not isinstance(node.ctx, ast.Load):
        return [node.id]
    if isinstance(node, ast.alias):
        return [node.asname or node.name]
    return []


class LanguageTest(unittest.TestCase):
    def test_files(self):
        self.assertIn("__init__.py", files())
        for name in files():
            self.assertRegex(name, r"\A[a-z_][a-z0-9_]*\.py\Z")

    def test_characters_and_sizes(self):
        for name, text in texts():
            with self.subTest(name=name):
                self.assertIsNone(re.search(r"[^ -~\n]", text))
                self.assertLessEqual(len(text.splitlines()), 399)
                self.assertLessEqual(max(map(len, text.splitlines())), 120)

    def test_functions(self):
        for name, node in nodes():
            if isinstance(node, FUNCTIONS):
                with self.subTest(name=name, function=node.name):
                    self.assertLessEqual(node.end_lineno - node.lineno + 1, 40)

    def test_imports(self):
        for name, node in nodes():
            self.assertNotIsInstance(node, ast.Import, name)
            if isinstance(node, ast.ImportFrom):
                with self.subTest(name=name, module=node.module):
                    self.assertEqual(node.level, 0)
                    taken = {alias.name for alias in node.names}
                    own = node.module.startswith("unitlimits.") and "*" not in taken
                    self.assertTrue(own or taken <= LIBRARY.get(node.module, set()))

    def test_builtins(self):
        for name, node in nodes():
            if isinstance(node, ast.Name) and isinstance(node.ctx, ast.Load) and hasattr(builtins, node.id):
                self.assertIn(node.id, BUILTINS, (name, node.lineno))

    def test_names(self):
        for name, node in nodes():
            for bound in bound_names(node):
                with self.subTest(name=name, bound=bound):
                    self.assertNotIn(bound, BARRED)
                    self.assertTrue(isinstance(node, FUNCTIONS) or not hasattr(builtins, bound))

    def test_forms_that_are_not_allowed(self):
        barred = (ast.Global, ast.AsyncFunctionDef, ast.Await, ast.Div)
        for name, node in nodes():
            self.assertNotIsInstance(node, barred, name)
            self.assertFalse(isinstance(node, ast.Constant) and isinstance(node.value, (float, complex)), name)


if __name__ == "__main__":
    unittest.main()

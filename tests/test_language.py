"""The rules of the Python subset that are quickly told from the files, each of them in part.

They are L1, L2, L5 to L8, L10, L13 to L17, L19, L20, L22 to L27.
"""

import ast
import builtins
import os
import re
import unittest

TOP = os.path.join(os.path.dirname(os.path.abspath(__file__)), os.pardir, "unitlimits")
LIBRARY = {
    "heapq": {"heappush", "heappop", "heapify", "heapreplace", "heappushpop"},
    "math": {"gcd", "lcm", "isqrt", "comb", "perm", "factorial"},
    "itertools": {"product", "combinations", "permutations", "chain", "accumulate", "pairwise", "islice",
                  "zip_longest"},
    "collections": {"defaultdict"},
}
BUILTINS = set("""
    len range enumerate zip min max sum abs sorted reversed int str bool list tuple dict set frozenset isinstance
    ord repr any all divmod pow getattr hasattr setattr map iter next super property staticmethod classmethod
    Exception ValueError TypeError KeyError IndexError LookupError ZeroDivisionError ArithmeticError OverflowError
    RuntimeError NotImplementedError AttributeError StopIteration NotImplemented object float bytes
""".split())
BARRED = {"register", "mro", "elements", "open", "input", "law", "version_info", "with_traceback", "add_note"}
WORDS = set("""
    type typing typing_extensions enum Enum IntEnum StrEnum Flag IntFlag Generic Protocol ABC ABCMeta namedtuple
    NamedTuple TypedDict TYPE_CHECKING abstractmethod
""".split())
# Methods of builtin values, and the double-underscore methods that operators need no care for.
METHODS = set("""
    append clear copy count endswith extend find get index insert isalnum isalpha isdigit islower isspace isupper items
    join keys ljust lower lstrip partition pop remove replace reverse rfind rjust rpartition rsplit rstrip setdefault
    split splitlines startswith strip update upper values zfill bit_length title capitalize swapcase casefold center
    expandtabs removeprefix removesuffix rindex isascii isdecimal isnumeric istitle isidentifier isprintable
""".split())
DOUBLE = {"__init__", "__eq__", "__repr__", "__str__", "__len__", "__getitem__", "__setitem__", "__iter__", "__iadd__",
          "__isub__"}
VIEWS = {"zip", "enumerate", "reversed", "range", "items", "keys", "values"}
ITERATING = {"list", "tuple", "dict", "sorted", "sum", "any", "all", "enumerate", "zip", "min", "max", "len"}
FUNCTIONS = (ast.FunctionDef, ast.AsyncFunctionDef)


def files():
    return sorted(name for name in os.listdir(TOP) if name != "__pycache__")


def texts():
    for name in files():
        with open(os.path.join(TOP, name), encoding="utf-8", newline="") as held:
            yield name, held.read()


def trees():
    for name, text in texts():
        yield name, ast.parse(text)


def nodes():
    for name, tree in trees():
        for node in ast.walk(tree):
            yield name, node


def bound_names(node):
    """The names that a part of a file gives to something."""
    if isinstance(node, FUNCTIONS + (ast.ClassDef,)):
        return [node.name]
    if isinstance(node, ast.arg):
        return [node.arg]
    if isinstance(node, ast.Name) and not isinstance(node.ctx, ast.Load):
        return [node.id]
    if isinstance(node, ast.alias):
        return [node.asname or node.name]
    return []


def top_names(tree):
    """The names that a file defines itself."""
    return {name for node in tree.body if not isinstance(node, ast.ImportFrom)
            for part in [node, *getattr(node, "targets", [])] for name in bound_names(part)}


def own_imports(tree):
    """Pairs of an imported file of the package and a name."""
    return [(node.module.removeprefix("unitlimits.") + ".py", alias.name) for node in ast.walk(tree)
            if isinstance(node, ast.ImportFrom) and node.module.startswith("unitlimits.") for alias in node.names]


def docstrings(tree):
    """The texts that no rule reads."""
    return [node.body[0].value for node in ast.walk(tree)
            if isinstance(node, FUNCTIONS + (ast.ClassDef, ast.Module)) and ast.get_docstring(node) is not None]


class LanguageTest(unittest.TestCase):
    def test_files(self):
        self.assertIn("__init__.py", files())
        for name in files():
            self.assertRegex(name, r"\A[a-z_][a-z0-9_]*\.py\Z")

    def test_characters_and_sizes(self):
        for name, text in texts():
            with self.subTest(name=name):
                self.assertIsNone(re.search(r"[^ -~\n]", text))
                self.assertLessEqual(len(text.splitlines()), 399)
                self.assertLessEqual(max(map(len, text.splitlines())), 120)

    def test_functions(self):
        for name, node in nodes():
            if isinstance(node, FUNCTIONS):
                with self.subTest(name=name, function=node.name):
                    self.assertLessEqual(node.end_lineno - node.lineno + 1, 40)

    def test_imports(self):
        for name, node in nodes():
            self.assertNotIsInstance(node, ast.Import, name)
            if isinstance(node, ast.ImportFrom):
                with self.subTest(name=name, module=node.module):
                    self.assertEqual(node.level, 0)
                    taken = {alias.name for alias in node.names}
                    own = node.module.startswith("unitlimits.") and "*" not in taken
                    self.assertTrue(own or taken <= LIBRARY.get(node.module, set()))

    def test_imports_name_the_file_that_defines(self):
        defined = {name: top_names(tree) for name, tree in trees()}
        for name, tree in trees():
            for file, taken in own_imports(tree):
                self.assertIn(taken, defined[file], name)

    def test_no_two_files_import_from_each_other(self):
        waiting = {name: {file for file, _ in own_imports(tree)} for name, tree in trees()}
        while waiting:
            free = [name for name, needed in waiting.items() if not needed & set(waiting)]
            self.assertTrue(free, waiting)
            for name in free:
                del waiting[name]

    def test_builtins(self):
        for name, node in nodes():
            if isinstance(node, ast.Name) and isinstance(node.ctx, ast.Load) and hasattr(builtins, node.id):
                self.assertIn(node.id, BUILTINS, (name, node.lineno))

    def test_names(self):
        for name, node in nodes():
            for bound in bound_names(node):
                with self.subTest(name=name, bound=bound):
                    self.assertNotIn(bound, BARRED)
                    self.assertTrue(isinstance(node, FUNCTIONS) or not hasattr(builtins, bound))

    def test_names_inside_functions(self):
        # No parameter, variable or nested function has the name of an import, a class or a function of its file.
        for name, tree in trees():
            taken = {taken for _, taken in own_imports(tree)} | top_names(tree)
            for function in [node for node in ast.walk(tree) if isinstance(node, FUNCTIONS)]:
                inner = [bound for node in ast.walk(function) if node is not function for bound in bound_names(node)]
                self.assertEqual(sorted(taken & set(inner)), [], (name, function.name))

    def test_words(self):
        for name, tree in trees():
            passed = docstrings(tree)
            for node in ast.walk(tree):
                if isinstance(node, ast.Constant) and isinstance(node.value, str) and node not in passed:
                    found = set(re.findall(r"\w+", node.value))
                    self.assertEqual(sorted(found & (WORDS - {"type"})), [], (name, node.lineno))
                    self.assertNotIn("%", node.value, (name, node.lineno))
                    self.assertIsNone(re.search(r"[^ -~\n\t]", node.value), (name, node.lineno))
                for bound in bound_names(node):
                    self.assertNotIn(bound, WORDS, name)

    def test_forms_that_are_not_allowed(self):
        barred = (ast.Global, ast.AsyncFunctionDef, ast.Await, ast.Div, ast.GeneratorExp)
        for name, node in nodes():
            # A list in the place of each generator expression: a class has a length and an equality of its own.
            self.assertNotIsInstance(node, barred, name)
            self.assertFalse(isinstance(node, ast.Constant) and isinstance(node.value, (float, complex)), name)

    def test_methods(self):
        own = {node.name for _, node in nodes() if isinstance(node, FUNCTIONS)}
        for name, node in nodes():
            if isinstance(node, ast.Call) and isinstance(node.func, ast.Attribute):
                self.assertIn(node.func.attr, METHODS | own | {"__init__"}, (name, node.lineno))
            if isinstance(node, FUNCTIONS) and node.name.startswith("__"):
                self.assertIn(node.name, DOUBLE, (name, node.lineno))

    def test_what_is_iterated_at_once(self):
        # zip(..), range(..), d.items() and the like stand behind "in", or in what goes over them on the spot.
        for name, tree in trees():
            passed = set()
            for node in ast.walk(tree):
                if isinstance(node, (ast.For, ast.comprehension)):
                    passed.add(node.iter)
                elif isinstance(node, ast.Call) and getattr(node.func, "id", None) in ITERATING:
                    passed.update(node.args)
                elif isinstance(node, ast.Compare) and isinstance(node.ops[0], (ast.In, ast.NotIn)):
                    passed.update(node.comparators)
            for node in ast.walk(tree):
                if isinstance(node, ast.Call):
                    called = getattr(node.func, "id", getattr(node.func, "attr", None))
                    self.assertTrue(called not in VIEWS or node in passed, (name, node.lineno))

    def test_handlers_and_finally(self):
        errors = {node.name for _, node in nodes() if isinstance(node, ast.ClassDef)} | {
            "KeyError", "ZeroDivisionError", "ValueError", "LookupError", "IndexError"}
        for name, node in nodes():
            if isinstance(node, ast.ExceptHandler):
                caught = node.type.elts if isinstance(node.type, ast.Tuple) else [node.type]
                self.assertTrue({part.id for part in caught} <= errors, (name, node.lineno))
            if isinstance(node, ast.Try):
                for line in [part for line in node.finalbody for part in ast.walk(line)]:
                    self.assertNotIsInstance(line, (ast.Call, ast.Return, ast.Raise, ast.For, ast.While, ast.Subscript),
                                             (name, node.lineno))

    def test_lambdas_and_sets(self):
        for name, tree in trees():
            lines = [node.lineno for node in ast.walk(tree) if isinstance(node, ast.Lambda)]
            self.assertEqual(len(lines), len(set(lines)), name)
            parents = {child: node for node in ast.walk(tree) for child in ast.iter_child_nodes(node)}
            for node in ast.walk(tree):
                if isinstance(node, (ast.Set, ast.SetComp)) or (
                        isinstance(node, ast.Call) and getattr(node.func, "id", None) in ("set", "frozenset")):
                    held = parents[node]
                    called = getattr(getattr(held, "func", None), "id", None)
                    self.assertIn(called, ("sorted", "len"), (name, node.lineno))

    def test_default_values(self):
        for name, node in nodes():
            if isinstance(node, (*FUNCTIONS, ast.Lambda)):
                for value in node.args.defaults + node.args.kw_defaults:
                    self.assertTrue(value is None or not any(isinstance(part, (ast.List, ast.Dict, ast.Set, ast.Call))
                                                             for part in ast.walk(value)), name)

    def test_identity(self):
        for name, node in nodes():
            if isinstance(node, ast.Compare) and any(isinstance(sign, (ast.Is, ast.IsNot)) for sign in node.ops):
                last = node.comparators[-1]
                self.assertTrue(isinstance(last, ast.Constant) and last.value in (None, True, False), name)


if __name__ == "__main__":
    unittest.main()

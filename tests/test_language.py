"""The rules of the language that a look at the package's files can check."""

import ast
import builtins
import os
import unittest

ROOT = os.path.dirname(os.path.dirname(os.path.abspath(__file__)))
PACKAGE = os.path.join(ROOT, "neverdark")

ALLOWED_BUILTINS = set("""
len range enumerate zip min max sum abs sorted reversed int str bool bytes list tuple dict set frozenset isinstance
ord repr any all divmod pow iter next map Exception ValueError TypeError KeyError IndexError LookupError
ZeroDivisionError ArithmeticError OverflowError RuntimeError NotImplementedError AttributeError StopIteration
NotImplemented super property staticmethod classmethod object
""".split())
FORBIDDEN_NODES = (ast.Global, ast.AsyncFunctionDef, ast.AsyncFor, ast.AsyncWith, ast.Await, ast.Import, ast.Div,
                   ast.MatMult, ast.TryStar)
BARRED_WORDS = set("""
type typing typing_extensions enum Enum IntEnum StrEnum Flag IntFlag Generic Protocol ABC ABCMeta namedtuple
NamedTuple TypedDict TYPE_CHECKING abstractmethod register mro elements open input law
""".split())


def files():
    """Return the sorted names of the package's files."""
    return sorted(name for name in os.listdir(PACKAGE) if name != "__pycache__")


def source(name):
    with open(os.path.join(PACKAGE, name), encoding="utf-8", newline="") as held:
        return held.read()


def trees():
    return [(name, ast.parse(source(name))) for name in files()]


def functions(tree):
    return [node for node in ast.walk(tree) if isinstance(node, ast.FunctionDef)]


def imports(tree):
    return [node for node in tree.body if isinstance(node, ast.ImportFrom)]


def bound_at_top(tree):
    """Return the names that the statements of a file bind, its imports left out."""
    found = []
    for node in tree.body:
        if isinstance(node, (ast.FunctionDef, ast.ClassDef)):
            found.append(node.name)
        elif isinstance(node, ast.Assign):
            found.extend(target.id for target in node.targets)
    return found


def bound_in(function):
    """Return the parameters and the variables of a function."""
    found = [node.arg for node in ast.walk(function.args) if isinstance(node, ast.arg)]
    for node in ast.walk(function):
        if isinstance(node, ast.Name) and isinstance(node.ctx, ast.Store):
            found.append(node.id)
        elif isinstance(node, (ast.MatchAs, ast.MatchStar, ast.ExceptHandler)) and node.name:
            found.append(node.name)
    return found


class LanguageTest(unittest.TestCase):
    def test_the_folder_holds_python_files_only(self):
        self.assertIn("__init__.py", files())
        for name in files():
            self.assertRegex(name, r"^[a-z_]+\.py$")

    def test_sizes_and_characters(self):
        for name in files():
            lines = source(name).split("\n")
            self.assertLess(len(lines), 400, name)
            for at, line in enumerate(lines, start=1):
                self.assertLessEqual(len(line), 120, (name, at))
                self.assertTrue(all(" " <= letter <= "~" for letter in line), (name, at))

    def test_functions_are_small(self):
        for name, tree in trees():
            for node in functions(tree):
                self.assertLessEqual(node.end_lineno - node.lineno + 1, 40, (name, node.name))

    def test_statements_and_values(self):
        for name, tree in trees():
            for node in ast.walk(tree):
                self.assertNotIsInstance(node, FORBIDDEN_NODES, (name, getattr(node, "lineno", 0)))
                if isinstance(node, ast.Constant):
                    self.assertNotIsInstance(node.value, (float, complex), (name, node.lineno))
                    self.assertNotIn("%", str(node.value), (name, node.lineno))
                if isinstance(node, (ast.FunctionDef, ast.ClassDef)):
                    self.assertEqual(node.decorator_list, [], (name, node.name))

    def test_builtins(self):
        for name, tree in trees():
            own = {word for node in functions(tree) for word in bound_in(node)} | set(bound_at_top(tree))
            self.assertEqual(own & set(dir(builtins)), set(), name)
            used = {node.id for node in ast.walk(tree) if isinstance(node, ast.Name)}
            self.assertLessEqual(used & set(dir(builtins)), ALLOWED_BUILTINS, name)

    def test_barred_words(self):
        for name, tree in trees():
            words = {node.id for node in ast.walk(tree) if isinstance(node, ast.Name)}
            words |= {node.attr for node in ast.walk(tree) if isinstance(node, ast.Attribute)}
            words |= {node.name for node in functions(tree)}
            words |= {word for node in functions(tree) for word in bound_in(node)}
            self.assertEqual(words & BARRED_WORDS, set(), name)

    def test_imports_name_the_file_that_defines(self):
        defined = {f"neverdark.{name[:-3]}": bound_at_top(tree) for name, tree in trees()}
        for name, tree in trees():
            for node in imports(tree):
                if node.module in ("heapq", "math", "itertools", "collections"):
                    continue
                self.assertEqual(node.level, 0, name)
                for alias in node.names:
                    self.assertIsNone(alias.asname, name)
                    self.assertIn(alias.name, defined[node.module], name)

    def test_names_are_bound_once(self):
        for name, tree in trees():
            top = bound_at_top(tree) + [alias.name for node in imports(tree) for alias in node.names]
            self.assertEqual(sorted(top), sorted(set(top)), name)
            taken = {alias.name for node in imports(tree) for alias in node.names}
            taken |= {node.name for node in tree.body if isinstance(node, ast.ClassDef)}
            for node in functions(tree):
                self.assertEqual(set(bound_in(node)) & taken, set(), (name, node.name))

    def test_imports_are_used(self):
        for name, tree in trees():
            used = {node.id for node in ast.walk(tree) if isinstance(node, ast.Name)}
            for node in imports(tree):
                for alias in node.names:
                    self.assertIn(alias.name, used, name)

    def test_imports_have_no_ring(self):
        left = {f"neverdark.{name[:-3]}": [node.module for node in imports(tree)] for name, tree in trees()}
        while left:
            free = [name for name in left if not any(module in left for module in left[name])]
            self.assertNotEqual(free, [], sorted(left))
            left = {name: left[name] for name in left if name not in free}


if __name__ == "__main__":
    unittest.main()

"""The rules of ../shared/LANGUAGE.md that can be read off the code of the package, rule by rule."""

import ast
import re
import unittest
from pathlib import Path

PACKAGE = Path(__file__).resolve().parent.parent / "hearsayways"
BUILTINS = set("""
    len range enumerate zip min max sum abs sorted reversed int str bool bytes list tuple dict set frozenset isinstance
    ord repr any all divmod Exception ValueError TypeError KeyError IndexError LookupError ZeroDivisionError
    ArithmeticError OverflowError RuntimeError NotImplementedError AttributeError StopIteration NotImplemented iter next
    map super property staticmethod classmethod
""".split())
METHODS = set("""
    append clear copy count endswith extend find get index insert isalnum isalpha isdigit islower isspace isupper items
    join keys ljust lower lstrip partition pop remove replace reverse rfind rjust rpartition rsplit rstrip setdefault
    split splitlines startswith strip update upper values zfill bit_length add discard sort __init__
""".split())
LIBRARY = {
    "heapq": {"heappush", "heappop", "heapify", "heapreplace", "heappushpop"},
    "math": {"gcd", "lcm", "isqrt", "comb", "perm", "factorial"},
    "itertools": {"product", "combinations", "permutations"},
}
DUNDERS = set("""
    __init__ __eq__ __repr__ __str__ __len__ __enter__ __exit__ __call__ __iter__ __getitem__ __setitem__ __bool__
    __contains__ __lt__ __le__ __gt__ __ge__
""".split())
BARRED = re.compile(
    r"\b(register|mro|elements|open|input|law|version_info|with_traceback|add_note|eval|exec|getattr|setattr|hasattr"
    r"|globals|locals|vars|typing|enum|Enum|dataclass|_wall|namedtuple|global|async|await|metaclass|Meta)\b|\(type\)")
REFUSED = (
    ast.Global, ast.AsyncFunctionDef, ast.AsyncFor, ast.AsyncWith, ast.Await, ast.YieldFrom, ast.GeneratorExp,
    ast.SetComp, ast.Div, ast.MatMult, ast.Set, ast.Import,
)


def files():
    return sorted(PACKAGE.rglob("*.py"))


def trees():
    return [(path.name, ast.parse(path.read_text(encoding="utf-8"))) for path in files()]


def functions(tree):
    return [node for node in ast.walk(tree) if isinstance(node, ast.FunctionDef)]


class Files(unittest.TestCase):
    def test_l1_only_files_of_python(self):
        held = [path for path in PACKAGE.rglob("*") if path.is_file() and "__pycache__" not in path.parts]
        self.assertEqual(sorted(held), files())
        for path in files():
            self.assertRegex(path.name, r"^[a-z0-9_]+\.py$")

    def test_l10_and_l14_sizes_and_characters(self):
        for path in files():
            text = path.read_text(encoding="utf-8")
            self.assertLessEqual(len(text.splitlines()), 399, path)
            self.assertEqual([line for line in text.split("\n") if len(line) > 120], [], path)
            self.assertTrue(all(" " <= sign <= "~" or sign == "\n" for sign in text), path)
            self.assertIsNone(BARRED.search(text), path)

    def test_l10_functions_of_at_most_40_lines(self):
        for name, tree in trees():
            for node in functions(tree):
                self.assertLessEqual(node.end_lineno - node.lineno + 1, 40, (name, node.name))


class Code(unittest.TestCase):
    def test_l2_and_l16_imports(self):
        made = {path.stem: ast.parse(path.read_text(encoding="utf-8")).body for path in files()}
        for name, tree in trees():
            for node in ast.walk(tree):
                if not isinstance(node, ast.ImportFrom):
                    continue
                self.assertEqual(node.level, 0, name)
                self.assertTrue(all(alias.asname is None for alias in node.names), name)
                if node.module in LIBRARY:
                    self.assertLessEqual({alias.name for alias in node.names}, LIBRARY[node.module])
                    continue
                top, _, stem = node.module.partition(".")
                self.assertEqual(top, "hearsayways", name)
                self.assertLessEqual({alias.name for alias in node.names}, bound(made[stem]), name)

    def test_l3_module_level(self):
        allowed = (ast.ImportFrom, ast.FunctionDef, ast.ClassDef, ast.Assign)
        for name, tree in trees():
            for at, node in enumerate(tree.body):
                docstring = at == 0 and isinstance(node, ast.Expr) and isinstance(node.value, ast.Constant)
                self.assertTrue(docstring or isinstance(node, allowed), (name, node.lineno))

    def test_l6_and_l7_kinds_of_code(self):
        for name, tree in trees():
            for node in ast.walk(tree):
                self.assertNotIsInstance(node, REFUSED, (name, getattr(node, "lineno", 0)))
                self.assertFalse(isinstance(node, ast.Constant) and isinstance(node.value, (float, complex)), name)
                self.assertFalse(isinstance(node, ast.Constant) and isinstance(node.value, str) and "%" in node.value)

    def test_l8_and_l25_names_that_are_called(self):
        own = set()
        for _, tree in trees():
            own |= {node.name for node in ast.walk(tree) if isinstance(node, (ast.FunctionDef, ast.ClassDef))}
        for name, tree in trees():
            for node in ast.walk(tree):
                if isinstance(node, ast.Call) and isinstance(node.func, ast.Name):
                    known = own | BUILTINS | set().union(*LIBRARY.values())
                    self.assertIn(node.func.id, known | parameters(tree), (name, node.lineno))
                if isinstance(node, ast.Call) and isinstance(node.func, ast.Attribute):
                    self.assertIn(node.func.attr, own | METHODS, (name, node.lineno))

    def test_l4_and_l5_methods_and_decorators(self):
        for name, tree in trees():
            for node in functions(tree):
                if node.name.startswith("__"):
                    self.assertIn(node.name, DUNDERS, name)
                for decorator in node.decorator_list:
                    self.assertIn(ast.unparse(decorator).rpartition(".")[2],
                                  ("property", "setter", "staticmethod", "classmethod"), name)

    def test_l15_names_are_bound_once(self):
        for name, tree in trees():
            names = [bound_name for node in tree.body for bound_name in sorted(bound([node]))]
            self.assertEqual(len(names), len(set(names)), name)
            for node in functions(tree):
                taken = {argument.arg for argument in ast.walk(node.args) if isinstance(argument, ast.arg)}
                taken |= {at.id for at in ast.walk(node) if isinstance(at, ast.Name) and isinstance(at.ctx, ast.Store)}
                self.assertFalse(taken & (imported(tree) | BUILTINS | {"id", "hash", "filter", "round", "vars"}),
                                 (name, node.name))


def bound(body):
    """The names that these statements bind."""
    names = set()
    for node in body:
        if isinstance(node, (ast.FunctionDef, ast.ClassDef)):
            names.add(node.name)
        if isinstance(node, ast.Assign):
            names |= {target.id for target in node.targets}
        if isinstance(node, ast.ImportFrom):
            names |= {alias.name for alias in node.names}
    return names


def imported(tree):
    return bound([node for node in tree.body if isinstance(node, ast.ImportFrom)])


def parameters(tree):
    return {argument.arg for node in functions(tree) for argument in ast.walk(node.args)
            if isinstance(argument, ast.arg)}

"""The package keeps to its small part of Python, as far as a look at its files tells."""

import ast
import builtins
import pathlib
import re
import unittest

PACKAGE = pathlib.Path(__file__).resolve().parent.parent / "foundprocess"
FILES = sorted(PACKAGE.glob("*.py"))

ALLOWED_NAMES = set("""
    len range enumerate zip min max sum abs sorted reversed int str bool list tuple dict set frozenset isinstance
    ord repr any all divmod Exception ValueError TypeError KeyError IndexError LookupError ZeroDivisionError
    ArithmeticError OverflowError RuntimeError NotImplementedError AttributeError StopIteration""".split())

ALLOWED_METHODS = set("""
    append clear copy count endswith extend find get index insert isalnum isalpha isdigit islower isspace isupper
    items join keys ljust lower lstrip partition pop remove replace reverse rfind rjust rpartition rsplit rstrip
    setdefault split splitlines startswith strip update upper values zfill bit_length""".split())

FORBIDDEN_WORDS = set("""
    type typing typing_extensions enum Enum IntEnum StrEnum Flag IntFlag Generic Protocol ABC ABCMeta namedtuple
    NamedTuple TypedDict TYPE_CHECKING abstractmethod""".split())

FORBIDDEN_NODES = (
    ast.Import, ast.ImportFrom, ast.With, ast.Match, ast.Delete, ast.Global, ast.Nonlocal, ast.Assert, ast.Yield,
    ast.YieldFrom, ast.Await, ast.AsyncFunctionDef, ast.AsyncFor, ast.AsyncWith, ast.SetComp, ast.DictComp,
    ast.GeneratorExp, ast.NamedExpr, ast.Starred, ast.Div, ast.Set, ast.AnnAssign)

PLAIN_TOP = (ast.FunctionDef, ast.ClassDef, ast.Assign)


def trees():
    return [(file.name, ast.parse(file.read_text())) for file in FILES]


def nodes(kinds):
    return [(name, node) for name, tree in trees() for node in ast.walk(tree) if isinstance(node, kinds)]


class Language(unittest.TestCase):
    def test_files(self):
        inside = [path.name for path in PACKAGE.iterdir() if path.name != "__pycache__"]
        self.assertEqual(sorted(inside), ["__init__.py", "logs.py"])

    def test_sizes_and_signs(self):
        for file in FILES:
            text = file.read_text(encoding="utf-8")
            lines = text.split("\n")
            self.assertLessEqual(len(lines), 400, file.name)
            self.assertLessEqual(max(len(one) for one in lines), 120, file.name)
            self.assertEqual(re.findall(r"[^ -~\n]", text), [], file.name)

    def test_functions_are_small(self):
        for name, node in nodes(ast.FunctionDef):
            self.assertLessEqual(node.end_lineno - node.lineno + 1, 40, f"{name}: {node.name}")

    def test_forbidden_words(self):
        for file in FILES:
            words = set(re.findall(r"\w+", file.read_text()))
            self.assertEqual(words & FORBIDDEN_WORDS, set(), file.name)

    def test_imports_nothing_and_keeps_to_plain_statements(self):
        found = [f"{name}:{node.lineno} {node.__class__.__name__}" for name, node in nodes(FORBIDDEN_NODES)]
        self.assertEqual(found, [])

    def test_tops_are_plain(self):
        for name, tree in trees():
            self.assertIsNotNone(ast.get_docstring(tree), name)
            for node in tree.body[1:]:
                self.assertIsInstance(node, PLAIN_TOP, f"{name}:{node.lineno}")

    def test_only_calls_stand_by_themselves(self):
        docstrings = [tree.body[0].value.value for unused, tree in trees()]
        others = [node.value for unused, node in nodes(ast.Expr) if not isinstance(node.value, ast.Call)]
        self.assertEqual([getattr(value, "value", None) for value in others], docstrings)

    def test_one_target_in_an_assignment(self):
        for name, node in nodes(ast.Assign):
            self.assertEqual(len(node.targets), 1, f"{name}:{node.lineno}")
            self.assertNotIsInstance(node.targets[0], (ast.Tuple, ast.List), f"{name}:{node.lineno}")

    def test_comprehensions_are_small(self):
        for name, node in nodes(ast.ListComp):
            self.assertEqual(len(node.generators), 1, f"{name}:{node.lineno}")
            self.assertLessEqual(len(node.generators[0].ifs), 1, f"{name}:{node.lineno}")

    def test_functions_are_plain(self):
        for name, node in nodes((ast.FunctionDef, ast.ClassDef)):
            self.assertEqual(node.decorator_list, [], f"{name}:{node.lineno}")
        for name, node in nodes(ast.arguments):
            self.assertEqual((node.vararg, node.kwarg, node.kwonlyargs, node.posonlyargs), (None, None, [], []), name)

    def test_names(self):
        own = set(dir(builtins)) - ALLOWED_NAMES
        for name, node in nodes(ast.Name):
            self.assertNotIn(node.id, own, f"{name}:{node.lineno}")
            self.assertFalse(node.id.startswith("_"), f"{name}:{node.lineno}")
            if not isinstance(node.ctx, ast.Load):
                self.assertFalse(hasattr(builtins, node.id), f"{name}:{node.lineno}")
        for name, node in nodes(ast.arg):
            self.assertFalse(hasattr(builtins, node.arg), f"{name}:{node.lineno}")

    def test_methods_of_pythons_own(self):
        written = {node.name for unused, node in nodes(ast.FunctionDef)}
        for name, node in nodes(ast.Call):
            if isinstance(node.func, ast.Attribute):
                self.assertIn(node.func.attr, ALLOWED_METHODS | written, f"{name}:{node.lineno}")

    def test_is_stands_beside_none_true_and_false(self):
        for name, node in nodes(ast.Compare):
            for sign, right in zip(node.ops, node.comparators):
                if isinstance(sign, (ast.Is, ast.IsNot)):
                    self.assertIsInstance(right, ast.Constant, f"{name}:{node.lineno}")


if __name__ == "__main__":
    unittest.main()

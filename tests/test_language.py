"""The package keeps to the small part of Python that it is written in, as far as a look at its files tells."""

import ast
import builtins
import pathlib
import re
import unittest

PACKAGE = pathlib.Path(__file__).resolve().parent.parent / "bladesets"

NODES = """
    Module Expr Constant ImportFrom alias FunctionDef arguments arg ClassDef Assign AugAssign If While For Return
    Break Continue Pass Raise Try ExceptHandler Name Attribute Subscript Slice Call keyword BinOp UnaryOp BoolOp
    Compare IfExp List Tuple Dict ListComp comprehension JoinedStr FormattedValue Lambda Load Store
    Add Sub Mult FloorDiv Mod Pow BitAnd BitOr BitXor LShift RShift Invert USub Not And Or
    Eq NotEq Lt LtE Gt GtE Is IsNot In NotIn
""".split()

OWN_NAMES = """
    len range enumerate zip min max sum abs sorted reversed int str bool list tuple dict set frozenset isinstance
    ord repr any all divmod Exception ValueError TypeError KeyError IndexError LookupError ZeroDivisionError
    ArithmeticError OverflowError RuntimeError NotImplementedError AttributeError StopIteration
""".split()

WORDS = """
    type typing typing_extensions enum Enum IntEnum StrEnum Flag IntFlag Generic Protocol ABC ABCMeta namedtuple
    NamedTuple TypedDict TYPE_CHECKING abstractmethod
""".split()

PYTHONS_METHODS = """
    append clear copy count endswith extend find get index insert isalnum isalpha isdigit islower isspace isupper
    items join keys ljust lower lstrip partition pop remove replace reverse rfind rjust rpartition rsplit rstrip
    setdefault split splitlines startswith strip update upper values zfill bit_length
""".split()

PARTS_OF_WORDS = ("dataclass", "overload", "contextmanager")
METHODS = ("__init__", "__eq__", "__repr__", "__str__", "__len__")


def files():
    return sorted(PACKAGE.glob("*.py"))


def nodes():
    for path in files():
        for node in ast.walk(ast.parse(path.read_text())):
            yield f"{path.name}:{getattr(node, 'lineno', 0)}", node


def bound_names(node):
    """The names that a node gives a meaning to."""
    if isinstance(node, (ast.FunctionDef, ast.ClassDef)):
        return [node.name]
    if isinstance(node, ast.arg):
        return [node.arg]
    if isinstance(node, ast.Name) and isinstance(node.ctx, ast.Store):
        return [node.id]
    return []


def own_methods():
    return {
        method.name
        for where, node in nodes() if isinstance(node, ast.ClassDef)
        for method in node.body if isinstance(method, ast.FunctionDef)
    }


def own_values():
    """The names under which objects keep values."""
    return {node.attr for where, node in nodes() if isinstance(node, ast.Attribute) and isinstance(node.ctx, ast.Store)}


class Language(unittest.TestCase):
    def test_nothing_else_lies_in_the_package(self):
        for path in PACKAGE.iterdir():
            if path.name != "__pycache__":
                self.assertRegex(path.name, r"^(__init__|[a-z][a-z0-9_]*)\.py$")
        self.assertIn(PACKAGE / "__init__.py", files())

    def test_signs_and_sizes(self):
        for path in files():
            text = path.read_bytes().decode()
            self.assertRegex(text, r"\A[ -~\n]*\Z", path.name)
            self.assertLessEqual(len(text.splitlines()), 400, path.name)
            self.assertLessEqual(max(len(line) for line in text.splitlines()), 120, path.name)

    def test_functions_have_at_most_40_lines(self):
        for where, node in nodes():
            if isinstance(node, ast.FunctionDef):
                self.assertLessEqual(node.end_lineno - node.lineno + 1, 40, where)
                self.assertEqual(node.decorator_list, [], where)

    def test_only_what_is_listed(self):
        for where, node in nodes():
            self.assertIn(node.__class__.__name__, NODES, where)
            if isinstance(node, ast.Constant):
                self.assertIn(node.value.__class__, (int, str, bool, None.__class__), where)
            if isinstance(node, ast.Assign):
                self.assertEqual(len(node.targets), 1, where)

    def test_only_the_package_is_imported(self):
        for where, node in nodes():
            if isinstance(node, ast.ImportFrom):
                self.assertRegex(node.module, r"^bladesets\.[a-z]+$", where)
                self.assertEqual(node.level, 0, where)
                self.assertTrue((PACKAGE / (node.module.split(".")[1] + ".py")).exists(), where)

    def test_python_s_own_names(self):
        for where, node in nodes():
            if isinstance(node, ast.Name) and hasattr(builtins, node.id):
                self.assertIn(node.id, OWN_NAMES, where)

    def test_names(self):
        for where, node in nodes():
            for name in bound_names(node):
                plain = not name.startswith("_") and not hasattr(builtins, name)
                self.assertTrue(plain or name in METHODS, f"{where} {name}")

    def test_methods_and_values(self):
        self.assertEqual(own_methods() & own_values(), set())
        for where, node in nodes():
            if isinstance(node, ast.Call) and isinstance(node.func, ast.Attribute):
                self.assertIn(node.func.attr, own_methods() | set(PYTHONS_METHODS), where)
        for name in own_values():
            self.assertFalse(any(hasattr(kind, name) for kind in (str, int, list, tuple, dict, set, bytes)), name)

    def test_each_name_once_at_the_top(self):
        for path in files():
            names = []
            for node in ast.parse(path.read_text()).body:
                if isinstance(node, ast.ImportFrom):
                    names += [alias.asname or alias.name for alias in node.names]
                elif isinstance(node, ast.Assign):
                    names += [node.targets[0].id]
                else:
                    names += bound_names(node)
            self.assertEqual(len(names), len(set(names)), path.name)

    def test_words_that_stand_nowhere(self):
        for path in files():
            text = path.read_text()
            self.assertEqual(set(re.findall(r"\w+", text)) & set(WORDS), set(), path.name)
            for part in PARTS_OF_WORDS:
                self.assertNotIn(part, text, path.name)


if __name__ == "__main__":
    unittest.main()

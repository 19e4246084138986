"""The package's own files: they import nothing from outside, and keep to the sizes and signs they may have."""

import ast
import builtins
import pathlib
import re
import unittest

PACKAGE = pathlib.Path(__file__).resolve().parent.parent / "markedgrains"

ALLOWED = """
len range enumerate zip min max sum abs sorted reversed int str bool list tuple dict set frozenset isinstance ord
repr any all divmod Exception ValueError TypeError KeyError IndexError LookupError ZeroDivisionError
ArithmeticError OverflowError RuntimeError NotImplementedError AttributeError StopIteration
""".split()

# Methods of Python's own values that may be called.
METHODS = """
append clear copy count endswith extend find get index insert isalnum isalpha isdigit islower isspace isupper items
join keys ljust lower lstrip partition pop remove replace reverse rfind rjust rpartition rsplit rstrip setdefault
split splitlines startswith strip update upper values zfill bit_length
""".split()

WORDS = """
type typing typing_extensions enum Enum IntEnum StrEnum Flag IntFlag Generic Protocol ABC ABCMeta namedtuple
NamedTuple TypedDict TYPE_CHECKING abstractmethod register mro elements open input eval exec
""".split()

REFUSED = (
    ast.With, ast.Match, ast.Delete, ast.Global, ast.Nonlocal, ast.Assert, ast.Yield, ast.YieldFrom, ast.Await,
    ast.AsyncFunctionDef, ast.AsyncFor, ast.AsyncWith, ast.SetComp, ast.DictComp, ast.GeneratorExp, ast.NamedExpr,
    ast.Starred, ast.Div, ast.MatMult, ast.Import)


def files():
    return sorted(path for path in PACKAGE.rglob("*") if path.is_file() and "__pycache__" not in path.parts)


def nodes():
    for path in files():
        for node in ast.walk(ast.parse(path.read_text(encoding="ascii"))):
            yield path, node


class Form(unittest.TestCase):
    def test_the_files(self):
        names = [path.relative_to(PACKAGE).as_posix() for path in files()]
        self.assertIn("__init__.py", names)
        self.assertIn("desk.py", names)
        for name in names:
            self.assertRegex(name, r"^[a-z0-9_/]+\.py$")

    def test_signs_and_sizes(self):
        for path in files():
            text = path.read_bytes().decode("ascii")
            self.assertTrue(all(sign == "\n" or " " <= sign <= "~" for sign in text), path)
            self.assertLessEqual(len(text.splitlines()), 400, path)
            for row in text.splitlines():
                self.assertLessEqual(len(row), 120, row)

    def test_defs_are_small_and_plain(self):
        for path, node in nodes():
            if isinstance(node, ast.FunctionDef):
                self.assertLessEqual(node.end_lineno - node.lineno + 1, 40, node.name)
                self.assertEqual(node.decorator_list, [], node.name)
                self.assertIsNone(node.args.vararg or node.args.kwarg, node.name)

    def test_imports_nothing(self):
        for path, node in nodes():
            self.assertNotIsInstance(node, (ast.Import, ast.ImportFrom), path)

    def test_forms_that_are_not_used(self):
        for path, node in nodes():
            self.assertNotIsInstance(node, REFUSED, f"{path} {getattr(node, 'lineno', '')}")
            if isinstance(node, ast.Constant):
                self.assertNotIsInstance(node.value, (float, complex, bytes), path)

    def test_words_that_are_not_used(self):
        for path in files():
            words = re.findall(r"[A-Za-z_]+", path.read_text(encoding="ascii"))
            self.assertEqual([word for word in words if word in WORDS], [], path)

    def test_names_that_are_given(self):
        for path, node in nodes():
            given = node.arg if isinstance(node, ast.arg) else None
            if isinstance(node, ast.Name) and isinstance(node.ctx, ast.Store):
                given = node.id
            if given is not None:
                self.assertFalse(given.startswith("_") or hasattr(builtins, given), f"{path} {node.lineno} {given}")

    def test_methods_and_values_of_objects(self):
        own = [node.name for _, node in nodes() if isinstance(node, ast.FunctionDef)]
        called = [node.func.attr for _, node in nodes()
                  if isinstance(node, ast.Call) and isinstance(node.func, ast.Attribute)]
        values = [node.attr for _, node in nodes()
                  if isinstance(node, ast.Attribute) and isinstance(node.ctx, ast.Store)]
        self.assertEqual([name for name in called if name not in own and name not in METHODS], [])
        self.assertEqual([name for name in values if name in own], [])
        for kind in (str, int, list, dict, set, bytes):
            self.assertEqual([name for name in values + own if hasattr(kind, name) and name != "__init__"], [])
        self.assertEqual(len(own) - own.count("__init__"), len(set(own) - {"__init__"}))

    def test_names_of_python_that_are_not_used(self):
        for path, node in nodes():
            if isinstance(node, ast.Name) and hasattr(builtins, node.id):
                self.assertIn(node.id, ALLOWED, f"{path} {node.lineno}")


if __name__ == "__main__":
    unittest.main()

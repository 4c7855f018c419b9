"""The package's files keep to the part of Python that they may use, as far as a look at them can tell."""

import ast
import builtins
import pathlib
import re
import unittest

PACKAGE = pathlib.Path(__file__).resolve().parent.parent / "turnabout"

KNOWN_NAMES = """len range enumerate zip min max sum abs sorted reversed int str bool list tuple dict set frozenset
isinstance ord repr any all divmod Exception ValueError TypeError KeyError IndexError LookupError ZeroDivisionError
ArithmeticError OverflowError RuntimeError NotImplementedError AttributeError StopIteration""".split()

KNOWN_METHODS = """append clear copy count endswith extend find get index insert isalnum isalpha isdigit islower isspace
isupper items join keys ljust lower lstrip partition pop remove replace reverse rfind rjust rpartition rsplit rstrip
setdefault split splitlines startswith strip update upper values zfill bit_length""".split()

FOREIGN_METHODS = {name for kind in (int, str, list, dict, set, bytes) for name in dir(kind)} - set(KNOWN_METHODS)

UNUSED_WORDS = """type typing typing_extensions enum Enum IntEnum StrEnum Flag IntFlag Generic Protocol ABC ABCMeta
namedtuple NamedTuple TypedDict TYPE_CHECKING abstractmethod""".split()

KNOWN_FORMS = """Module ImportFrom alias FunctionDef ClassDef arguments arg Return Assign AugAssign For While If Raise Try
ExceptHandler Expr Pass Break Continue BoolOp BinOp UnaryOp IfExp Lambda Dict Set ListComp comprehension Compare Call
keyword JoinedStr FormattedValue Constant Attribute Subscript Slice Name List Tuple Load Store And Or Not Add Sub Mult
FloorDiv Mod Pow LShift RShift BitOr BitXor BitAnd Invert UAdd USub Eq NotEq Lt LtE Gt GtE Is IsNot In NotIn""".split()


def files():
    return sorted(path for path in PACKAGE.rglob("*") if path.is_file() and "__pycache__" not in path.parts)


def local_names(tree):
    for node in ast.walk(tree):
        if isinstance(node, ast.arg):
            yield node.arg
        elif isinstance(node, ast.Name) and isinstance(node.ctx, ast.Store):
            yield node.id


def bound_names(tree):
    yield from local_names(tree)
    for node in ast.walk(tree):
        if isinstance(node, (ast.FunctionDef, ast.ClassDef)):
            yield node.name


class Language(unittest.TestCase):
    def each(self):
        for path in files():
            with self.subTest(file=path.name):
                text = path.read_text(encoding="utf-8")
                yield path, text, ast.parse(text)

    def test_files(self):
        self.assertIn(PACKAGE / "__init__.py", files())
        for path in files():
            self.assertRegex(path.name, r"^(__init__|__main__|[a-z][a-z0-9_]*)\.py$")

    def test_signs_and_sizes(self):
        for path, text, tree in self.each():
            self.assertRegex(text, r"^[ -~\n]*$")
            self.assertLessEqual(len(text.splitlines()), 400)
            self.assertLessEqual(max((len(line) for line in text.splitlines()), default=0), 120)
            for node in ast.walk(tree):
                if isinstance(node, ast.FunctionDef):
                    self.assertLessEqual(node.end_lineno - node.lineno + 1, 40, node.name)

    def test_words(self):
        for path, text, tree in self.each():
            words = set(re.findall(r"\w+", text))
            self.assertEqual(words & set(UNUSED_WORDS), set())
            for part in ("dataclass", "overload", "contextmanager"):
                self.assertNotIn(part, text)

    def test_forms(self):
        for path, text, tree in self.each():
            for node in ast.walk(tree):
                self.assertIn(type(node).__name__, KNOWN_FORMS, getattr(node, "lineno", 0))
                if isinstance(node, ast.Constant):
                    self.assertIn(type(node.value), (int, str, bool, type(None)), node.lineno)
                    self.assertNotIn("%", str(node.value), node.lineno)
                if isinstance(node, (ast.FunctionDef, ast.ClassDef)):
                    self.assertEqual(node.decorator_list, [], node.lineno)
                if isinstance(node, ast.BinOp) and isinstance(node.op, ast.Pow):
                    self.assertIsInstance(node.right, ast.Constant, node.lineno)
                if isinstance(node, (ast.For, ast.While)):
                    self.assertEqual(node.orelse, [], node.lineno)

    def test_names(self):
        for path, text, tree in self.each():
            for name in bound_names(tree):
                self.assertRegex(name, r"^([A-Za-z][A-Za-z0-9_]*|__(init|eq|repr|str|len)__)$")
            for name in local_names(tree):
                self.assertFalse(hasattr(builtins, name), name)
            for node in ast.walk(tree):
                if isinstance(node, ast.Name) and hasattr(builtins, node.id):
                    self.assertIn(node.id, KNOWN_NAMES, node.lineno)
                if isinstance(node, ast.Attribute) and node.attr != "__init__":
                    self.assertNotIn(node.attr, FOREIGN_METHODS, node.lineno)

    def test_nothing_is_imported(self):
        for path, text, tree in self.each():
            for node in ast.walk(tree):
                self.assertNotIsInstance(node, (ast.Import, ast.ImportFrom))


if __name__ == "__main__":
    unittest.main()

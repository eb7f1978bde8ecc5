"""The rules of LANGUAGE.md that a walk over the package's files can see."""

import ast
import builtins
import pathlib
import re
import unittest

PACKAGE = pathlib.Path(__file__).resolve().parent.parent / "sumspan"
FILES = sorted([path for path in PACKAGE.rglob("*") if path.is_file() and "__pycache__" not in path.parts])

ALLOWED = set(
    """
    Module FunctionDef arguments arg ClassDef ImportFrom alias
    Assign AugAssign If While For Return Break Continue Pass Raise Try ExceptHandler Expr
    BoolOp And Or BinOp Add Sub Mult FloorDiv Mod Pow LShift RShift BitOr BitAnd BitXor
    UnaryOp Not USub Invert Lambda IfExp Dict List Tuple Set ListComp comprehension Compare
    Eq NotEq Lt LtE Gt GtE Is IsNot In NotIn Call keyword JoinedStr FormattedValue Constant
    Attribute Subscript Slice Name Load Store
    """.split()
)
PYTHONS_OWN = set(
    """
    len range enumerate zip min max sum abs sorted reversed int str bool list tuple dict set
    frozenset isinstance ord repr any all divmod Exception ValueError TypeError KeyError
    IndexError LookupError ZeroDivisionError ArithmeticError OverflowError RuntimeError
    NotImplementedError StopIteration
    """.split()
)
METHODS = set(
    """
    append clear copy count endswith extend find get index insert isalnum isalpha isdigit islower
    isspace isupper items join keys ljust lower lstrip partition pop remove replace reverse rfind
    rjust rpartition rsplit rstrip setdefault split splitlines startswith strip update upper values
    zfill bit_length
    """.split()
)
WORDS = set(
    """
    type typing typing_extensions enum Enum IntEnum StrEnum Flag IntFlag Generic Protocol ABC ABCMeta
    namedtuple NamedTuple TypedDict TYPE_CHECKING abstractmethod
    """.split()
)


def walked(path):
    return list(ast.walk(ast.parse(path.read_text(encoding="utf-8"))))


WALKED = set("zip enumerate reversed range items keys values".split())
WALKERS = set("list tuple dict sorted sum any all enumerate zip min max join".split())


def called(node):
    if not isinstance(node, ast.Call):
        return None
    return node.func.id if isinstance(node.func, ast.Name) else getattr(node.func, "attr", None)


def walked_on_the_spot(tree):
    """The nodes that stand where a walk begins."""
    for node in tree:
        if isinstance(node, (ast.For, ast.comprehension)):
            yield node.iter
        elif called(node) in WALKERS and node.args:
            yield node.args[0]


def drawn_from(path):
    for node in walked(path):
        if isinstance(node, ast.ImportFrom):
            for alias in node.names:
                yield PACKAGE / (node.module.split(".")[1] + ".py"), alias.name


def top_names(path):
    for node in ast.parse(path.read_text(encoding="utf-8")).body:
        if isinstance(node, (ast.FunctionDef, ast.ClassDef)):
            yield node.name
        elif isinstance(node, ast.Assign):
            yield node.targets[0].id


def names_of(tree):
    for node in tree:
        if isinstance(node, ast.Name):
            yield node.id
        elif isinstance(node, (ast.FunctionDef, ast.ClassDef)):
            yield node.name
        elif isinstance(node, ast.arg):
            yield node.arg


class TestLanguage(unittest.TestCase):
    def test_files(self):
        self.assertIn(PACKAGE / "__init__.py", FILES)
        for path in FILES:
            self.assertRegex(path.name, r"\A(__init__|[a-z][a-z0-9_]*)\.py\Z")

    def test_signs_and_sizes(self):
        for path in FILES:
            text = path.read_text(encoding="utf-8")
            self.assertIsNone(re.search(r"[^\n -~]", text), path)
            self.assertLessEqual(len(text.splitlines()), 400, path)
            for row in text.splitlines():
                self.assertLessEqual(len(row), 120, row)
            words = set(re.findall(r"\w+", text))
            self.assertEqual(words & WORDS, set(), path)
            self.assertIsNone(re.search("dataclass|overload|contextmanager", text), path)

    def test_forms(self):
        for path in FILES:
            for node in walked(path):
                self.assertIn(node.__class__.__name__, ALLOWED, (path, getattr(node, "lineno", None)))

    def test_imports_are_the_package_s_own(self):
        for path in FILES:
            for node in walked(path):
                if isinstance(node, ast.ImportFrom):
                    self.assertEqual(node.level, 0, path)
                    self.assertRegex(node.module, r"\Asumspan\.[a-z_]+\Z")

    def test_imports_are_from_the_file_that_defines_the_name(self):
        for path in FILES:
            for source, name in drawn_from(path):
                self.assertIn(name, list(top_names(source)), (path, name))

    def test_no_two_files_draw_from_one_another(self):
        left = {path: {source for source, name in drawn_from(path)} for path in FILES}
        while left:
            free = [path for path, sources in left.items() if not sources & set(left)]
            self.assertNotEqual(free, [], left)
            left = {path: sources for path, sources in left.items() if path not in free}

    def test_each_name_of_a_file_s_top_once(self):
        for path in FILES:
            tops = list(top_names(path)) + [name for source, name in drawn_from(path)]
            self.assertEqual(len(tops), len(set(tops)), path)
            for function in walked(path):
                if isinstance(function, (ast.FunctionDef, ast.Lambda)):
                    inner = [node.arg for node in ast.walk(function) if isinstance(node, ast.arg)]
                    inner += [
                        node.id for node in ast.walk(function)
                        if isinstance(node, ast.Name) and isinstance(node.ctx, ast.Store)
                    ]
                    self.assertEqual(set(inner) & (set(tops) | set(dir(builtins))), set(), path)

    def test_walked_at_once(self):
        for path in FILES:
            tree = walked(path)
            good = list(walked_on_the_spot(tree))
            for node in tree:
                if called(node) in WALKED:
                    self.assertTrue(any(node is other for other in good), (path, node.lineno))

    def test_functions_and_statements(self):
        for path in FILES:
            for node in walked(path):
                if isinstance(node, ast.FunctionDef):
                    self.assertLessEqual(node.end_lineno - node.lineno + 1, 40, node.name)
                    self.assertEqual(node.decorator_list, [])
                    self.assertIsNone(node.args.vararg or node.args.kwarg)
                    self.assertEqual(node.args.kwonlyargs + node.args.posonlyargs, [])
                if isinstance(node, ast.Assign):
                    self.assertEqual(len(node.targets), 1)
                if isinstance(node, (ast.For, ast.While, ast.Try)):
                    self.assertEqual(node.orelse if not isinstance(node, ast.Try) else node.finalbody, [])
                if isinstance(node, ast.ListComp):
                    self.assertEqual(len(node.generators), 1)
                    self.assertLessEqual(len(node.generators[0].ifs), 1)

    def test_values(self):
        for path in FILES:
            for node in walked(path):
                if isinstance(node, ast.Constant):
                    self.assertTrue(node.value is None or isinstance(node.value, (bool, int, str)), node.value)
                    self.assertFalse(isinstance(node.value, str) and "%" in node.value, node.value)
                if isinstance(node, ast.Compare):
                    for sign, right in zip(node.ops, node.comparators):
                        if isinstance(sign, (ast.Is, ast.IsNot)):
                            self.assertIsInstance(right, ast.Constant)

    def test_names(self):
        builtin_names = set(dir(builtins))
        for path in FILES:
            tree = walked(path)
            for name in names_of(tree):
                self.assertRegex(name, r"\A[A-Za-z][A-Za-z0-9_]*\Z")
                self.assertFalse(name in builtin_names and name not in PYTHONS_OWN, (path, name))
            for node in tree:
                bound = isinstance(node, ast.Name) and isinstance(node.ctx, ast.Store)
                if bound:
                    self.assertNotIn(node.id, builtin_names)
                if isinstance(node, ast.Attribute):
                    self.assertIn(node.attr, METHODS, (path, node.lineno))


if __name__ == "__main__":
    unittest.main()

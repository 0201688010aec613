"""The part of Python that the package keeps to, as far as a test can see it."""

import ast
import builtins
import pathlib
import re
import unittest

import busterminal

FOLDER = pathlib.Path(busterminal.__file__).parent
FILES = sorted(path for path in FOLDER.rglob("*") if path.is_file() and "__pycache__" not in path.parts)

ALLOWED_NAMES = set("""len range enumerate zip min max sum abs sorted reversed int str bool list tuple dict set
    frozenset isinstance ord repr any all divmod Exception ValueError TypeError KeyError IndexError LookupError
    ZeroDivisionError ArithmeticError OverflowError RuntimeError NotImplementedError AttributeError
    StopIteration""".split())
BANNED_WORDS = re.compile(r"\b(type|typing|typing_extensions|enum|Enum|IntEnum|StrEnum|Flag|IntFlag|Generic|Protocol"
                          r"|ABC|ABCMeta|namedtuple|NamedTuple|TypedDict|TYPE_CHECKING|abstractmethod)\b"
                          r"|dataclass|overload|contextmanager")
BANNED_NAMES = set("register mro elements open input version_info with_traceback add_note format format_map".split())
ALLOWED_NODES = set("""Module Expr Constant ImportFrom alias FunctionDef arguments arg ClassDef Assign AugAssign If
    While For Return Break Continue Pass Raise Try ExceptHandler Call BinOp UnaryOp BoolOp Compare IfExp Attribute
    Subscript Slice ListComp comprehension JoinedStr FormattedValue Name List Tuple Dict Load Store Lambda keyword
    Add Sub Mult FloorDiv Mod Pow LShift RShift BitOr BitAnd BitXor Invert Not USub UAdd And Or Eq NotEq Lt LtE Gt
    GtE In NotIn Is IsNot""".split())
METHODS_WITH_UNDERSCORES = set("__init__ __eq__ __repr__ __str__ __len__".split())


def nodes():
    for path in FILES:
        for node in ast.walk(ast.parse(path.read_text())):
            yield path.name, node


def top_nodes():
    for path in FILES:
        for node in ast.parse(path.read_text()).body:
            yield path.name, node


def bound_names(node):
    if isinstance(node, (ast.FunctionDef, ast.ClassDef)):
        return [node.name]
    if isinstance(node, ast.arg):
        return [node.arg]
    if isinstance(node, ast.Name) and isinstance(node.ctx, ast.Store):
        return [node.id]
    if isinstance(node, ast.Attribute):
        return [node.attr]
    return []


class Files(unittest.TestCase):
    def test_plain_files_alone(self):
        for path in FILES:
            self.assertRegex(path.name, r"^[a-z0-9_]+\.py$")
        self.assertIn("__init__.py", [path.name for path in FILES])

    def test_signs_and_sizes(self):
        for path in FILES:
            text = path.read_bytes().decode("ascii")
            self.assertRegex(text, r"\A[ -~\n]*\Z", path.name)
            lines = text.split("\n")
            self.assertLessEqual(len(lines), 400, path.name)
            self.assertLessEqual(max(len(line) for line in lines), 120, path.name)
            self.assertIsNone(BANNED_WORDS.search(text), path.name)

    def test_functions_are_short(self):
        for name, node in nodes():
            if isinstance(node, ast.FunctionDef):
                self.assertLessEqual(node.end_lineno - node.lineno + 1, 40, (name, node.name))


class Forms(unittest.TestCase):
    def test_kinds_of_nodes(self):
        for name, node in nodes():
            self.assertIn(node.__class__.__name__, ALLOWED_NODES, (name, getattr(node, "lineno", 0)))

    def test_constants(self):
        for name, node in nodes():
            if isinstance(node, ast.Constant):
                self.assertIn(node.value.__class__, (int, str, bool, None.__class__), (name, node.lineno))

    def test_imports_are_of_the_package_and_not_in_circles(self):
        draws = {}
        for name, node in top_nodes():
            if isinstance(node, ast.ImportFrom):
                self.assertEqual(node.level, 0)
                self.assertTrue(node.module.startswith("busterminal."), (name, node.module))
                self.assertTrue(all(alias.asname is None and alias.name != "*" for alias in node.names))
                draws.setdefault(name, set()).add(node.module.split(".")[1] + ".py")
        while draws:
            ends = [name for name in draws if not draws[name] & set(draws)]
            self.assertNotEqual(ends, [], draws)
            for name in ends:
                draws.pop(name)

    def test_tops_hold_plain_things(self):
        for name, node in top_nodes():
            plain = isinstance(node, (ast.ImportFrom, ast.FunctionDef, ast.ClassDef, ast.Assign))
            docstring = isinstance(node, ast.Expr) and isinstance(node.value, ast.Constant)
            self.assertTrue(plain or docstring, (name, node.lineno))
            if isinstance(node, ast.Assign):
                ast.literal_eval(node.value)

    def test_functions_have_plain_parameters(self):
        for name, node in nodes():
            if isinstance(node, (ast.FunctionDef, ast.ClassDef)):
                self.assertEqual(node.decorator_list, [], (name, node.name))
            if isinstance(node, ast.arguments):
                self.assertEqual((node.vararg, node.kwarg, node.kwonlyargs, node.posonlyargs), (None, None, [], []))

    def test_names_are_plain_and_not_pythons_own(self):
        for name, node in nodes():
            for bound in bound_names(node):
                if bound in METHODS_WITH_UNDERSCORES:
                    continue
                self.assertRegex(bound, r"^[A-Za-z][A-Za-z0-9_]*$", name)
                self.assertNotIn(bound, BANNED_NAMES, name)
                if not isinstance(node, ast.Attribute):
                    self.assertFalse(hasattr(builtins, bound), (name, bound))

    def test_pythons_own_names_are_those_listed(self):
        for name, node in nodes():
            if isinstance(node, ast.Name) and hasattr(builtins, node.id):
                self.assertIn(node.id, ALLOWED_NAMES, (name, node.lineno))

    def test_no_local_is_called_like_an_import_or_class_of_its_file(self):
        for path in FILES:
            tree = ast.parse(path.read_text())
            taken = {alias.name for node in ast.walk(tree) if isinstance(node, ast.ImportFrom) for alias in node.names}
            taken |= {node.name for node in ast.walk(tree) if isinstance(node, ast.ClassDef)}
            for node in ast.walk(tree):
                if isinstance(node, (ast.arg, ast.Name)):
                    for bound in bound_names(node):
                        self.assertNotIn(bound, taken, (path.name, node.lineno))


if __name__ == "__main__":
    unittest.main()

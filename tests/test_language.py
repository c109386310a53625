"""The rules of ../shared/LANGUAGE.md that can be seen in the package's files one by one."""

import ast
import pathlib
import re
import unittest

PACKAGE = pathlib.Path(__file__).resolve().parent.parent / "biasplies"
FILES = sorted(path for path in PACKAGE.rglob("*") if "__pycache__" not in path.parts)

NODES = set(
    "Module Expr Import ImportFrom alias FunctionDef Lambda ClassDef arguments arg Return Assign AugAssign "
    "If While For Break Continue Pass Raise Try ExceptHandler Call keyword Name Load Store Attribute Subscript "
    "Slice Constant List Tuple Dict Set ListComp comprehension JoinedStr FormattedValue IfExp BoolOp And Or "
    "UnaryOp Not USub Invert BinOp Add Sub Mult FloorDiv Mod Pow BitAnd BitOr BitXor LShift RShift Compare "
    "Eq NotEq Lt LtE Gt GtE Is IsNot In NotIn".split()
)
OWN_OF_PYTHON = set(
    "len range enumerate zip min max sum abs sorted reversed int str bool list tuple dict set isinstance ord "
    "repr any all divmod Exception ValueError TypeError KeyError IndexError LookupError ZeroDivisionError "
    "ArithmeticError OverflowError RuntimeError NotImplementedError AttributeError StopIteration".split()
)
METHODS = set(
    "append clear copy count endswith extend find get index insert isalnum isalpha isdigit islower isspace "
    "isupper items join keys ljust lower lstrip partition pop remove replace reverse rfind rjust rpartition "
    "rsplit rstrip setdefault split splitlines startswith strip update upper values zfill bit_length".split()
)
BUILT_IN = set(dir(__builtins__) if not isinstance(__builtins__, dict) else __builtins__)
NOT_NAMES = set(
    "register mro elements open input version_info with_traceback add_note attrgetter breakpoint builtins "
    "compile copyright credits delattr dir eval exec exit gc getattr globals hasattr help id importlib license "
    "locals methodcaller os quit setattr super type vars sys".split()
)
WORDS = re.compile(
    r"\b(type|typing|typing_extensions|enum|Enum|IntEnum|StrEnum|Flag|IntFlag|Generic|Protocol|ABC|ABCMeta"
    r"|namedtuple|NamedTuple|TypedDict|TYPE_CHECKING|abstractmethod)\b|dataclass|overload|contextmanager"
)


def plain(node):
    """A value that may stand at a file's top: whole numbers, texts and tuples of these."""
    if isinstance(node, ast.UnaryOp) and isinstance(node.op, ast.USub):
        node = node.operand
    if isinstance(node, (ast.Tuple, ast.List)):
        return all(plain(inner) for inner in node.elts)
    return isinstance(node, ast.Constant)


def bound_names(tree):
    names = [node.id for node in ast.walk(tree) if isinstance(node, ast.Name) and isinstance(node.ctx, ast.Store)]
    names += [node.arg for node in ast.walk(tree) if isinstance(node, ast.arg)]
    names += [node.name for node in ast.walk(tree) if isinstance(node, ast.FunctionDef)]
    return names


def imported_names(tree):
    return [alias.name for row in tree.body if isinstance(row, ast.ImportFrom) for alias in row.names]


class LanguageTest(unittest.TestCase):
    def each(self):
        for path in FILES:
            text = path.read_text(encoding="utf-8")
            yield path, text, ast.parse(text)

    def nodes(self, *kinds):
        for path, text, tree in self.each():
            for node in ast.walk(tree):
                if isinstance(node, kinds):
                    yield path.name, node

    def test_files(self):
        self.assertIn(PACKAGE / "drum.py", FILES)
        for path in FILES:
            self.assertRegex(path.name, r"^([a-z][a-z0-9_]*|__init__)\.py$")

    def test_sizes_and_signs(self):
        for path, text, tree in self.each():
            rows = text.split("\n")
            self.assertLess(len(rows), 400, path)
            for row in rows:
                self.assertRegex(row, r"^[ -~]{0,120}$", path)
            self.assertIsNone(WORDS.search(text), path)
        for name, node in self.nodes(ast.FunctionDef):
            self.assertLessEqual(node.end_lineno - node.lineno + 1, 40, (name, node.name))

    def test_only_what_the_rules_name_stands_there(self):
        for name, node in self.nodes(ast.AST):
            self.assertIn(node.__class__.__name__, NODES, (name, getattr(node, "lineno", 0)))

    def test_the_top_of_a_file(self):
        for path, text, tree in self.each():
            self.assertIsNotNone(ast.get_docstring(tree), path)
            for row in tree.body[1:]:
                self.assertIsInstance(row, (ast.ImportFrom, ast.FunctionDef, ast.ClassDef, ast.Assign), path)
                if isinstance(row, ast.Assign):
                    self.assertTrue(plain(row.value), (path, row.lineno))
                if isinstance(row, ast.ImportFrom):
                    self.assertEqual((row.level, row.module.split(".")[0]), (0, "biasplies"), path)
            tops = imported_names(tree) + [row.name for row in tree.body if hasattr(row, "name")]
            tops += [row.targets[0].id for row in tree.body if isinstance(row, ast.Assign)]
            self.assertEqual(len(tops), len(set(tops)), path)

    def test_functions_are_plain(self):
        for name, node in self.nodes(ast.FunctionDef, ast.ClassDef):
            self.assertEqual(node.decorator_list, [], (name, node.name))
        for name, node in self.nodes(ast.arguments):
            self.assertEqual((node.vararg, node.kwarg, node.kwonlyargs, node.posonlyargs), (None, None, [], []), name)
        for name, node in self.nodes(ast.Assign):
            self.assertEqual(len(node.targets), 1, (name, node.lineno))
        for name, node in self.nodes(ast.For, ast.While):
            self.assertEqual(node.orelse, [], (name, node.lineno))

    def test_names(self):
        for path, text, tree in self.each():
            for bound in bound_names(tree):
                self.assertNotIn(bound, BUILT_IN | NOT_NAMES, path)
                self.assertRegex(bound, r"^([A-Za-z][A-Za-z0-9_]*|__init__)$", path)
            classes = [row.name for row in tree.body if isinstance(row, ast.ClassDef)]
            self.assertEqual(set(bound_names(tree)) & set(imported_names(tree) + classes), set(), path)
            known = set(bound_names(tree) + imported_names(tree) + classes) | OWN_OF_PYTHON
            used = {node.id for node in ast.walk(tree) if isinstance(node, ast.Name)}
            self.assertEqual(used - known, set(), path)

    def test_methods_and_values(self):
        own = {node.name for name, node in self.nodes(ast.FunctionDef)}
        stored = {
            node.attr for name, node in self.nodes(ast.Attribute) if isinstance(node.ctx, ast.Store)
        }
        methods = {
            inner.name for name, node in self.nodes(ast.ClassDef) for inner in node.body
            if isinstance(inner, ast.FunctionDef)
        }
        self.assertEqual(stored & methods, set())
        self.assertEqual(stored & METHODS, set())
        called = {
            node.func.attr for name, node in self.nodes(ast.Call) if isinstance(node.func, ast.Attribute)
        }
        self.assertEqual(called - METHODS - own, set())
        read = {node.attr for name, node in self.nodes(ast.Attribute)}
        self.assertEqual(read - METHODS - own - stored, set())

    def test_constants(self):
        for name, node in self.nodes(ast.Constant):
            self.assertIn(node.value.__class__, (int, str, bool, None.__class__), (name, node.lineno))
            if isinstance(node.value, str):
                self.assertNotIn("%", node.value, (name, node.lineno))

    def test_no_two_files_draw_from_one_another(self):
        drawn = {
            path.stem: {row.module.split(".")[1] for row in tree.body if isinstance(row, ast.ImportFrom)}
            for path, text, tree in self.each()
        }
        while drawn:
            free = [name for name in drawn if not drawn[name] & set(drawn)]
            self.assertNotEqual(free, [], drawn)
            for name in free:
                del drawn[name]


if __name__ == "__main__":
    unittest.main()

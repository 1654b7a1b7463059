"""The package keeps to the part of Python that it is written in.

This sees what can be seen row by row: files, signs, sizes, statements, names, imports.
"""

import ast
import builtins
import pathlib
import re
import unittest

PACKAGE = pathlib.Path(__file__).resolve().parent.parent / "motiffield"

NODES = set(
    "Module Expr FunctionDef ClassDef arguments arg Return Assign AugAssign If While For Break Continue Pass "
    "Raise Try ExceptHandler ImportFrom alias BoolOp And Or BinOp Add Sub Mult FloorDiv Mod Pow LShift RShift "
    "BitOr BitXor BitAnd UnaryOp Invert Not UAdd USub Lambda IfExp Dict List Tuple Set ListComp comprehension "
    "Compare Eq NotEq Lt LtE Gt GtE Is IsNot In NotIn Call keyword JoinedStr FormattedValue Constant Attribute "
    "Subscript Slice Name Load Store".split()
)
OWN_NAMES = set(
    "len range enumerate zip min max sum abs sorted reversed int str bool list tuple dict set frozenset isinstance "
    "ord repr any all divmod Exception ValueError TypeError KeyError IndexError LookupError ZeroDivisionError "
    "ArithmeticError OverflowError RuntimeError NotImplementedError AttributeError StopIteration".split()
)
OWN_METHODS = set(
    "append clear copy count endswith extend find get index insert isalnum isalpha isdigit islower isspace isupper "
    "items join keys ljust lower lstrip partition pop remove replace reverse rfind rjust rpartition rsplit rstrip "
    "setdefault split splitlines startswith strip update upper values zfill bit_length add discard title".split()
)
TWO_UNDERSCORES = {"__init__", "__eq__", "__repr__", "__str__", "__len__", "__all__", "__version__"}
OUT = set(
    "register mro elements open input version_info with_traceback add_note attrgetter breakpoint builtins compile "
    "copyright credits delattr dir eval exec exit gc getattr globals hasattr help id importlib license locals "
    "methodcaller os quit setattr super type vars sys".split()
)
WORDS = re.compile(
    r"\b(type|typing|typing_extensions|enum|Enum|IntEnum|StrEnum|Flag|IntFlag|Generic|Protocol|ABC|ABCMeta"
    r"|namedtuple|NamedTuple|TypedDict|TYPE_CHECKING|abstractmethod)\b|dataclass|overload|contextmanager"
)
PLAIN_NAME = re.compile(r"[A-Za-z][A-Za-z0-9_]*")
TAKEN = set().union(*(dir(kind) for kind in (str, int, list, tuple, dict, set, bytes)))


def files():
    return sorted(PACKAGE.rglob("*.py"))


def nodes():
    return [(path.name, node) for path in files() for node in ast.walk(ast.parse(path.read_text("ascii")))]


def trees():
    return {f"motiffield.{path.stem}": ast.parse(path.read_text("ascii")) for path in files()}


def bound_at_the_top(tree):
    """The names that a file itself gives a meaning at its top."""
    defs = [node.name for node in tree.body if isinstance(node, (ast.FunctionDef, ast.ClassDef))]
    return defs + [target.id for node in tree.body if isinstance(node, ast.Assign) for target in node.targets]


def imported(tree):
    return [alias.name for node in tree.body if isinstance(node, ast.ImportFrom) for alias in node.names]


def drawn_from(tree):
    return {node.module for node in ast.walk(tree) if isinstance(node, ast.ImportFrom)}


def bound_or_read(node):
    """The names, but for attributes, that a node itself speaks of."""
    if isinstance(node, ast.Name):
        return [node.id]
    if isinstance(node, ast.arg):
        return [node.arg]
    if isinstance(node, (ast.FunctionDef, ast.ClassDef)):
        return [node.name]
    if isinstance(node, ast.ExceptHandler) and node.name:
        return [node.name]
    return []


class Language(unittest.TestCase):
    def test_files(self):
        self.assertIn(PACKAGE / "__init__.py", files())
        for path in PACKAGE.rglob("*"):
            if "__pycache__" not in path.parts:
                self.assertRegex(path.name, r"^([a-z][a-z0-9_]*|__init__|__main__)\.py$")

    def test_signs_and_sizes(self):
        for path in files():
            text = path.read_bytes().decode("ascii")
            rows = text.split("\n")
            self.assertLessEqual(len(rows), 401, path)
            for row in rows:
                self.assertRegex(row, r"^[ -~]{0,120}$", path)
            self.assertIsNone(WORDS.search(text), path)

    def test_statements_and_expressions(self):
        for place, node in nodes():
            said = f"{place}: {ast.dump(node)[:80]}"
            self.assertIn(node.__class__.__name__, NODES, said)
            if isinstance(node, ast.Assign):
                self.assertEqual(len(node.targets), 1, said)
            if isinstance(node, (ast.For, ast.While)):
                self.assertEqual(node.orelse, [], said)
            if isinstance(node, ast.Try):
                self.assertEqual(node.finalbody, [], said)
            if isinstance(node, ast.Constant):
                self.assertIn(type(node.value), (int, str, bool, type(None)), said)
                self.assertFalse(isinstance(node.value, str) and "%" in node.value, said)
            if isinstance(node, ast.Compare) and any(isinstance(op, (ast.Is, ast.IsNot)) for op in node.ops):
                beside = [part.value for part in node.comparators if isinstance(part, ast.Constant)]
                self.assertTrue(any(value is None or value is True or value is False for value in beside), said)

    def test_functions_and_classes(self):
        for place, node in nodes():
            if isinstance(node, ast.FunctionDef):
                said = f"{place}: {node.name}"
                self.assertLessEqual(node.end_lineno - node.lineno + 1, 40, said)
                self.assertEqual(node.decorator_list, [], said)
                self.assertIsNone(node.args.vararg or node.args.kwarg, said)
                self.assertEqual(node.args.kwonlyargs + node.args.posonlyargs, [], said)
            if isinstance(node, ast.ClassDef):
                self.assertEqual(node.decorator_list + node.keywords, [], node.name)
                self.assertLessEqual(len(node.bases), 1, node.name)

    def test_imports(self):
        for place, node in nodes():
            if isinstance(node, ast.ImportFrom):
                self.assertEqual(node.level, 0, place)
                self.assertTrue(node.module == "__future__" or node.module.startswith("motiffield."), place)
                self.assertNotIn("*", [alias.name for alias in node.names], place)

    def test_each_import_is_from_the_file_that_defines_the_name(self):
        for place, node in nodes():
            if isinstance(node, ast.ImportFrom) and node.module != "__future__":
                for alias in node.names:
                    said = f"{place}: {node.module}.{alias.name}"
                    self.assertIn(alias.name, bound_at_the_top(trees()[node.module]), said)
                    self.assertIsNone(alias.asname, said)

    def test_no_two_files_draw_from_one_another(self):
        left = {module: drawn_from(tree) for module, tree in trees().items()}
        while left:
            free = [module for module in left if not left[module] & set(left)]
            self.assertTrue(free, f"these draw from one another: {sorted(left)}")
            for module in free:
                del left[module]

    def test_a_name_is_bound_once_at_the_top_and_not_again_within(self):
        for module, tree in trees().items():
            top = bound_at_the_top(tree) + imported(tree)
            self.assertEqual(len(top), len(set(top)), module)
            taken = set(imported(tree)) | {node.name for node in tree.body if isinstance(node, ast.ClassDef)}
            for node in ast.walk(tree):
                if isinstance(node, ast.arg) or isinstance(node, ast.Name) and isinstance(node.ctx, ast.Store):
                    self.assertNotIn(bound_or_read(node)[0], taken, module)

    def test_no_name_is_a_method_here_and_a_value_there(self):
        methods = set()
        values = set()
        for place, node in nodes():
            if isinstance(node, ast.ClassDef):
                own = [part.name for part in node.body if isinstance(part, ast.FunctionDef)]
                self.assertEqual(len(own), len(set(own)), f"{place}: {node.name}")
                methods.update(own)
            if isinstance(node, ast.Attribute) and isinstance(node.ctx, ast.Store):
                values.add(node.attr)
        self.assertEqual(methods & values, set())

    def test_names(self):
        python = set(dir(builtins))
        for place, node in nodes():
            for name in bound_or_read(node):
                said = f"{place}: {name}"
                self.assertTrue(name in TWO_UNDERSCORES or PLAIN_NAME.fullmatch(name), said)
                self.assertNotIn(name, OUT, said)
                if isinstance(node, ast.Name) and isinstance(node.ctx, ast.Load):
                    self.assertTrue(name not in python or name in OWN_NAMES, said)
                elif name not in TWO_UNDERSCORES and not isinstance(node, ast.FunctionDef):
                    self.assertNotIn(name, python, said)

    def test_attributes(self):
        for place, node in nodes():
            if isinstance(node, ast.Attribute):
                said = f"{place}: {node.attr}"
                self.assertTrue(
                    node.attr in OWN_METHODS or node.attr in TWO_UNDERSCORES or node.attr not in TAKEN, said
                )
                self.assertNotIn(node.attr, OUT, said)


if __name__ == "__main__":
    unittest.main()

"""Rules of shared/LANGUAGE.md that can be looked at file by file."""

import ast
import builtins
import pathlib
import re
import unittest

PACKAGE = pathlib.Path(__file__).resolve().parent.parent / "rowsmerged"
FILES = sorted(path for path in PACKAGE.rglob("*") if "__pycache__" not in path.parts)

WORDS_OUT = re.compile(
    r"\b(type|typing|typing_extensions|enum|Enum|IntEnum|StrEnum|Flag|IntFlag|Generic|Protocol|ABC|ABCMeta|namedtuple"
    r"|NamedTuple|TypedDict|TYPE_CHECKING|abstractmethod)\b|dataclass|overload|contextmanager")

NAMES_OUT = set(
    "register mro elements open input version_info with_traceback add_note attrgetter breakpoint compile copyright "
    "credits delattr dir eval exec exit gc getattr globals hasattr help id importlib license locals methodcaller os "
    "quit setattr super vars sys builtins".split())

OWN_NAMES = set(
    "len range enumerate zip min max sum abs sorted reversed int str bool list tuple dict set frozenset isinstance ord "
    "repr any all divmod Exception ValueError TypeError KeyError IndexError LookupError ZeroDivisionError "
    "ArithmeticError OverflowError RuntimeError NotImplementedError AttributeError StopIteration".split())

METHODS_OF_PYTHON = {name for kind in (str, int, list, tuple, dict, set, bytes) for name in dir(kind)}

NODES_OUT = (
    ast.With, ast.Match, ast.Delete, ast.Global, ast.Nonlocal, ast.Assert, ast.Yield, ast.YieldFrom, ast.AsyncFor,
    ast.AsyncFunctionDef, ast.AsyncWith, ast.Await, ast.SetComp, ast.DictComp, ast.GeneratorExp, ast.NamedExpr,
    ast.Starred, ast.Div, ast.MatMult, ast.Import, ast.AnnAssign)


def tree_of(path):
    return ast.parse(path.read_text(encoding="utf-8"))


def bound_names(tree):
    """Parameters and names that are given a value within defs."""
    for node in ast.walk(tree):
        if isinstance(node, ast.arg):
            yield node.arg
        if isinstance(node, ast.Name) and isinstance(node.ctx, ast.Store):
            yield node.id


class Files(unittest.TestCase):
    def test_nothing_else_lies_in_the_package(self):
        self.assertIn("merging.py", [path.name for path in FILES])
        for path in FILES:
            self.assertRegex(path.name, r"^([a-z][a-z0-9_]*|__init__|__main__)\.py$")

    def test_sizes_and_signs(self):
        for path in FILES:
            text = path.read_text(encoding="utf-8")
            self.assertLessEqual(len(text.splitlines()), 399, path)
            self.assertRegex(text, r"\A[ -~\n]*\Z", path)
            self.assertFalse([line for line in text.splitlines() if len(line) > 120], path)
            for node in ast.walk(tree_of(path)):
                if isinstance(node, ast.FunctionDef):
                    self.assertLessEqual(node.end_lineno - node.lineno + 1, 40, (path, node.name))

    def test_words(self):
        for path in FILES:
            self.assertIsNone(WORDS_OUT.search(path.read_text(encoding="utf-8")), path)


class Syntax(unittest.TestCase):
    def nodes(self):
        for path in FILES:
            for node in ast.walk(tree_of(path)):
                yield path, node

    def test_what_is_out(self):
        for path, node in self.nodes():
            where = (path.name, getattr(node, "lineno", 0))
            self.assertNotIsInstance(node, NODES_OUT, where)
            if isinstance(node, ast.Constant):
                self.assertIn(type(node.value), (int, str, bool, type(None)), where)
            if isinstance(node, (ast.For, ast.While)):
                self.assertEqual([], node.orelse, where)
            if isinstance(node, ast.Assign):
                self.assertEqual(1, len(node.targets), where)
            if isinstance(node, (ast.FunctionDef, ast.ClassDef)):
                self.assertEqual([], node.decorator_list, where)
            if isinstance(node, ast.ListComp):
                self.assertEqual(1, len(node.generators), where)
                self.assertLessEqual(len(node.generators[0].ifs), 1, where)
            if isinstance(node, ast.Compare) and any(isinstance(op, (ast.Is, ast.IsNot)) for op in node.ops):
                self.assertIsInstance(node.comparators[-1], ast.Constant, where)

    def test_imports_are_of_own_files_and_go_no_round(self):
        draws = {}
        for path, node in self.nodes():
            if isinstance(node, ast.ImportFrom):
                self.assertRegex(node.module, r"^rowsmerged\.[a-z]+$")
                self.assertEqual(0, node.level)
                defined = {part.name for part in tree_of(PACKAGE / (node.module.split(".")[1] + ".py")).body
                           if isinstance(part, (ast.FunctionDef, ast.ClassDef))}
                for alias in node.names:
                    self.assertIn(alias.name, defined, path)
                draws.setdefault(path.stem, set()).add(node.module.split(".")[1])
        while draws:
            free = [name for name, drawn in draws.items() if not drawn & set(draws)]
            self.assertTrue(free, draws)
            for name in free:
                draws.pop(name)

    def test_names(self):
        for path, node in self.nodes():
            if isinstance(node, ast.Name):
                self.assertNotIn(node.id, NAMES_OUT, path)
                if hasattr(builtins, node.id):
                    self.assertIn(node.id, OWN_NAMES, path)
            if isinstance(node, ast.Attribute):
                self.assertFalse(node.attr.startswith("_"), (path, node.attr))

    def test_no_name_is_bound_over_another(self):
        for path in FILES:
            tree = tree_of(path)
            taken = {alias.name for node in tree.body if isinstance(node, ast.ImportFrom) for alias in node.names}
            taken |= {node.name for node in tree.body if isinstance(node, (ast.ClassDef, ast.FunctionDef))}
            for name in bound_names(tree):
                self.assertNotIn(name, taken, path)
                self.assertFalse(hasattr(builtins, name) or name.startswith("_"), (path, name))

    def test_methods_and_values_of_objects(self):
        methods = set()
        values = set()
        for path, node in self.nodes():
            if isinstance(node, ast.ClassDef):
                methods |= {part.name for part in node.body if isinstance(part, ast.FunctionDef)}
            if isinstance(node, ast.Attribute) and isinstance(node.ctx, ast.Store):
                values.add(node.attr)
        self.assertEqual(set(), methods & values)
        self.assertEqual({"__init__"}, methods & METHODS_OF_PYTHON)
        self.assertEqual(set(), values & METHODS_OF_PYTHON)

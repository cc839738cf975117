"""That the package's files keep to the small part of Python that they are written in."""

import ast
import builtins
import pathlib
import re
import unittest

PACKAGE = pathlib.Path(__file__).resolve().parent.parent / "gameworth"
FILES = sorted(PACKAGE.glob("*.py"))

OWN_NAMES = set("""len range enumerate zip min max sum abs sorted reversed int str bool list tuple dict set frozenset
    isinstance ord repr any all divmod Exception ValueError TypeError KeyError IndexError LookupError ZeroDivisionError
    ArithmeticError OverflowError RuntimeError NotImplementedError AttributeError StopIteration""".split())
OWN_METHODS = set("""append clear copy count endswith extend find get index insert isalnum isalpha isdigit islower isspace
    isupper items join keys ljust lower lstrip partition pop remove replace reverse rfind rjust rpartition rsplit rstrip
    setdefault split splitlines startswith strip update upper values zfill bit_length""".split())
LEFT_OUT_WORDS = re.compile(r"\b(type|typing|typing_extensions|enum|Enum|IntEnum|StrEnum|Flag|IntFlag|Generic|Protocol|ABC|"
                            r"ABCMeta|namedtuple|NamedTuple|TypedDict|TYPE_CHECKING|abstractmethod)\b|"
                            r"dataclass|overload|contextmanager")
NODES = (ast.Module, ast.FunctionDef, ast.ClassDef, ast.arguments, ast.arg, ast.ImportFrom, ast.alias, ast.Assign,
         ast.AugAssign, ast.If, ast.While, ast.For, ast.Return, ast.Break, ast.Continue, ast.Pass, ast.Raise, ast.Try,
         ast.ExceptHandler, ast.Expr, ast.Call, ast.keyword, ast.Name, ast.Attribute, ast.Subscript, ast.Slice,
         ast.Constant, ast.List, ast.Tuple, ast.Dict, ast.BinOp, ast.UnaryOp, ast.BoolOp, ast.Compare, ast.IfExp,
         ast.ListComp, ast.comprehension, ast.Lambda, ast.JoinedStr, ast.FormattedValue, ast.expr_context, ast.operator,
         ast.unaryop, ast.boolop, ast.cmpop)


def trees():
    return [(path, ast.parse(path.read_text(encoding="ascii"))) for path in FILES]


def nodes(*kinds):
    return [(path.name, node) for path, tree in trees() for node in ast.walk(tree) if isinstance(node, kinds)]


def bound_names():
    names = {node.name for _, node in nodes(ast.FunctionDef, ast.ClassDef)}
    names |= {node.arg for _, node in nodes(ast.arg)}
    names |= {alias.asname or alias.name for _, node in nodes(ast.ImportFrom) for alias in node.names}
    return names | {node.id for _, node in nodes(ast.Name) if isinstance(node.ctx, ast.Store)}


class Files(unittest.TestCase):
    def test_nothing_but_plain_files(self):
        for path in PACKAGE.iterdir():
            if path.name != "__pycache__":
                self.assertRegex(path.name, r"\A(__init__|[a-z][a-z0-9_]*)\.py\Z")
                self.assertTrue(path.stem == "__init__" or not hasattr(builtins, path.stem), path.name)
        self.assertIn("games.py", [path.name for path in FILES])

    def test_signs_and_sizes(self):
        for path in FILES:
            rows = path.read_text(encoding="ascii").split("\n")
            self.assertLessEqual(len(rows), 400, path.name)
            for place, row in enumerate(rows):
                self.assertRegex(row, r"\A[ -~]{0,120}\Z", (path.name, place + 1))
                self.assertIsNone(LEFT_OUT_WORDS.search(row), (path.name, place + 1))
        for name, node in nodes(ast.FunctionDef):
            self.assertLessEqual(node.end_lineno - node.lineno + 1, 40, (name, node.name))


class Code(unittest.TestCase):
    def test_only_the_kinds_of_statement_and_value_that_are_in(self):
        for name, node in nodes(ast.AST):
            self.assertIsInstance(node, NODES, (name, getattr(node, "lineno", None)))
        for name, node in nodes(ast.Constant):
            self.assertIn(type(node.value), (int, str, bool, type(None)), (name, node.lineno))
        for name, node in nodes(ast.BinOp, ast.AugAssign):
            self.assertNotIsInstance(node.op, (ast.Div, ast.Pow, ast.MatMult), (name, node.lineno))

    def test_simple_forms(self):
        for name, node in nodes(ast.FunctionDef):
            given = node.args
            self.assertFalse(given.vararg or given.kwarg or given.kwonlyargs or given.posonlyargs, (name, node.name))
            self.assertFalse(node.decorator_list or node.returns, (name, node.name))
        for name, node in nodes(ast.For, ast.While):
            self.assertEqual(node.orelse, [], (name, node.lineno))
        for name, node in nodes(ast.Assign):
            self.assertEqual(len(node.targets), 1, (name, node.lineno))
        for name, node in nodes(ast.Try):
            self.assertEqual(node.finalbody, [], (name, node.lineno))
        for name, node in nodes(ast.ClassDef):
            self.assertLessEqual(len(node.bases), 1, (name, node.name))
            self.assertTrue(all(isinstance(one, (ast.FunctionDef, ast.Pass)) for one in node.body), (name, node.name))

    def test_imports_are_the_package_s_own_and_go_one_way(self):
        drawn = {path.stem: set() for path in FILES}
        for name, node in nodes(ast.ImportFrom):
            self.assertRegex(node.module, r"\Agameworth\.[a-z]+\Z", (name, node.lineno))
            self.assertEqual(node.level, 0)
            drawn[name[:-3]].add(node.module.split(".")[1])
        self.assertEqual(drawn["__init__"], set())
        while drawn:
            free = [name for name in drawn if not drawn[name] & set(drawn)]
            self.assertTrue(free, f"they draw from one another: {drawn}")
            for name in free:
                drawn.pop(name)

    def test_names(self):
        bound = bound_names()
        methods = {node.name for _, node in nodes(ast.FunctionDef)}
        values = {node.attr for _, node in nodes(ast.Attribute) if isinstance(node.ctx, ast.Store)}
        for name in (bound | values) - {"__init__"}:
            self.assertFalse(name.startswith("_") or hasattr(builtins, name), name)
        self.assertEqual(values & methods, set())
        for name, node in nodes(ast.Name):
            self.assertIn(node.id, bound | OWN_NAMES, (name, node.lineno))
        for name, node in nodes(ast.Attribute):
            self.assertIn(node.attr, OWN_METHODS | methods | values, (name, node.lineno))


if __name__ == "__main__":
    unittest.main()

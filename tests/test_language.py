"""The package keeps to the part of Python that it is written in: what of the rules can be told by a look at it."""

import ast
import builtins
import pathlib
import re
import unittest

PACKAGE = pathlib.Path(__file__).resolve().parent.parent / "cellwidths"

NODES = (
    ast.Module, ast.FunctionDef, ast.arguments, ast.arg, ast.Return, ast.Assign, ast.For, ast.While, ast.If,
    ast.Expr, ast.Break, ast.Continue, ast.Pass, ast.BoolOp, ast.And, ast.Or, ast.BinOp, ast.Add, ast.Sub,
    ast.Mult, ast.FloorDiv, ast.Mod, ast.UnaryOp, ast.USub, ast.Not, ast.IfExp, ast.Dict, ast.List, ast.Tuple,
    ast.ListComp, ast.comprehension, ast.Compare, ast.Eq, ast.NotEq, ast.Lt, ast.LtE, ast.Gt, ast.GtE, ast.Is,
    ast.IsNot, ast.In, ast.NotIn, ast.Call, ast.keyword, ast.Constant, ast.Attribute, ast.Subscript, ast.Slice,
    ast.Name, ast.Load, ast.Store,
)
OWN_NAMES = set(
    "len range enumerate zip min max sum abs sorted reversed int str bool list tuple dict any all divmod".split()
)
METHODS = set("append clear copy count extend get index insert items keys pop remove reverse update values".split())
WORDS = re.compile(
    r"\b(type|typing|typing_extensions|enum|Enum|IntEnum|StrEnum|Flag|IntFlag|Generic|Protocol|ABC|ABCMeta|namedtuple"
    r"|NamedTuple|TypedDict|TYPE_CHECKING|abstractmethod)\b|dataclass|overload|contextmanager"
)


def sources():
    return [(path, path.read_text(encoding="utf-8")) for path in sorted(PACKAGE.glob("*.py"))]


def nodes():
    return [(path, node) for path, text in sources() for node in ast.walk(ast.parse(text))]


class Language(unittest.TestCase):
    def test_nothing_else_lies_in_the_package(self):
        names = sorted(path.name for path in PACKAGE.iterdir() if path.name != "__pycache__")
        self.assertEqual(names, ["__init__.py", "columns.py"])

    def test_signs_and_sizes(self):
        for path, text in sources():
            self.assertLessEqual(len(text.splitlines()), 400)
            self.assertIsNone(re.search(r"[^ -~\n]", text), path)
            self.assertIsNone(WORDS.search(text), path)
            for line in text.splitlines():
                self.assertLessEqual(len(line), 120, line)

    def test_nothing_is_imported_and_every_form_is_plain(self):
        for path, node in nodes():
            self.assertIsInstance(node, NODES, f"{path.name}:{getattr(node, 'lineno', 0)}")
            if isinstance(node, ast.Assign):
                self.assertEqual(len(node.targets), 1)

    def test_functions_are_short(self):
        for path, node in nodes():
            if isinstance(node, ast.FunctionDef):
                self.assertLessEqual(node.end_lineno - node.lineno + 1, 40, node.name)
                self.assertEqual(node.decorator_list, [])

    def test_names(self):
        for path, text in sources():
            tree = ast.parse(text)
            bound = set()
            for node in ast.walk(tree):
                if isinstance(node, ast.FunctionDef):
                    bound.add(node.name)
                elif isinstance(node, ast.arg):
                    bound.add(node.arg)
                elif isinstance(node, ast.Name) and isinstance(node.ctx, ast.Store):
                    bound.add(node.id)
            for name in bound:
                self.assertRegex(name, r"^[A-Za-z][A-Za-z0-9_]*$")
                self.assertFalse(hasattr(builtins, name), name)
            for node in ast.walk(tree):
                if isinstance(node, ast.Name) and isinstance(node.ctx, ast.Load):
                    self.assertIn(node.id, bound | OWN_NAMES)
                if isinstance(node, ast.Attribute):
                    self.assertIn(node.attr, METHODS)

    def test_no_function_calls_itself(self):
        calls = {}
        for path, node in nodes():
            if isinstance(node, ast.FunctionDef):
                inner = [part.func for part in ast.walk(node) if isinstance(part, ast.Call)]
                calls[node.name] = {part.id for part in inner if isinstance(part, ast.Name)}
        for name in calls:
            reached = set()
            ahead = [name]
            while ahead:
                for called in calls.get(ahead.pop(), ()):
                    if called not in reached:
                        reached.add(called)
                        ahead.append(called)
            self.assertNotIn(name, reached)


if __name__ == "__main__":
    unittest.main()

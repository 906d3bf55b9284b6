"""That the package's files keep to the part of Python that they are held to, as far as a test sees it."""

import ast
import builtins
import pathlib
import re
import unittest

FOLDER = pathlib.Path(__file__).resolve().parent.parent / "ropeline"
OWN_NAMES = set(
    "len range enumerate zip min max sum abs sorted reversed int str bool list tuple dict set frozenset isinstance "
    "ord repr any all divmod Exception ValueError TypeError KeyError IndexError LookupError ZeroDivisionError "
    "ArithmeticError OverflowError RuntimeError NotImplementedError AttributeError StopIteration".split()
)
METHODS = set(
    "append clear copy count endswith extend find get index insert isalnum isalpha isdigit islower isspace isupper "
    "items join keys ljust lower lstrip partition pop remove replace reverse rfind rjust rpartition rsplit rstrip "
    "setdefault split splitlines startswith strip update upper values zfill bit_length".split()
)
WORDS = (
    r"\b(type|typing|typing_extensions|enum|Enum|IntEnum|StrEnum|Flag|IntFlag|Generic|Protocol|ABC|ABCMeta|namedtuple"
    r"|NamedTuple|TypedDict|TYPE_CHECKING|abstractmethod)\b|dataclass|overload|contextmanager"
)
STATEMENTS = (
    ast.FunctionDef, ast.ClassDef, ast.Assign, ast.AugAssign, ast.If, ast.While, ast.For, ast.Return, ast.Break,
    ast.Continue, ast.Pass, ast.Raise, ast.Try, ast.Expr,
)
EXPRESSIONS = (
    ast.BoolOp, ast.BinOp, ast.UnaryOp, ast.Lambda, ast.IfExp, ast.Dict, ast.ListComp, ast.Compare, ast.Call,
    ast.JoinedStr, ast.FormattedValue, ast.Constant, ast.Attribute, ast.Subscript, ast.Name, ast.List, ast.Tuple,
    ast.Slice,
)


def files():
    return sorted(FOLDER.glob("*.py"))


def nodes(kind):
    for path in files():
        for node in ast.walk(ast.parse(path.read_text())):
            if isinstance(node, kind):
                yield path, node


class Language(unittest.TestCase):
    def test_only_plain_files(self):
        names = sorted(path.name for path in FOLDER.iterdir() if path.name != "__pycache__")
        self.assertEqual(names, ["__init__.py", "hills.py"])

    def test_sizes_and_signs(self):
        for path in files():
            text = path.read_text()
            self.assertLess(len(text.splitlines()), 400)
            self.assertEqual([row for row in text.splitlines() if len(row) > 120], [])
            self.assertEqual(sorted(sign for sign in set(text) if not (" " <= sign <= "~" or sign == "\n")), [])
            self.assertIsNone(re.search(WORDS, text))
        for path, node in nodes(ast.FunctionDef):
            self.assertLessEqual(node.end_lineno - node.lineno + 1, 40, node.name)

    def test_nothing_is_imported(self):
        self.assertEqual(list(nodes((ast.Import, ast.ImportFrom))), [])

    def test_statements_and_expressions(self):
        for path, node in nodes((ast.stmt, ast.expr)):
            with self.subTest(path=path.name, line=node.lineno):
                self.assertIsInstance(node, STATEMENTS + EXPRESSIONS)
        for path, node in nodes(ast.Assign):
            self.assertEqual(len(node.targets), 1)
            self.assertNotIsInstance(node.targets[0], (ast.Tuple, ast.List))
        for path, node in nodes((ast.While, ast.For)):
            self.assertEqual(node.orelse, [])
        for path, node in nodes(ast.Constant):
            self.assertTrue(node.value is None or isinstance(node.value, (int, str)))
        self.assertEqual(list(nodes(ast.Div)), [])

    def test_plain_functions(self):
        for path, node in nodes(ast.FunctionDef):
            given = node.args
            self.assertEqual((node.decorator_list, given.vararg, given.kwarg, given.kwonlyargs), ([], None, None, []))

    def test_names(self):
        for path, node in nodes(ast.Name):
            if node.id in dir(builtins):
                self.assertIn(node.id, OWN_NAMES)
                self.assertIsInstance(node.ctx, ast.Load)
            self.assertFalse(node.id.startswith("_"))
        for path, node in nodes(ast.arg):
            self.assertNotIn(node.arg, dir(builtins))

    def test_methods_and_values_of_objects(self):
        own = {node.name for path, node in nodes(ast.FunctionDef)}
        kept = {node.attr for path, node in nodes(ast.Attribute) if isinstance(node.ctx, ast.Store)}
        taken = {name for kind in (str, int, list, dict, set, bytes, tuple) for name in dir(kind)}
        self.assertEqual(sorted(kept & (taken | own)), [])
        for path, node in nodes(ast.Attribute):
            self.assertIn(node.attr, own | kept | METHODS)


if __name__ == "__main__":
    unittest.main()

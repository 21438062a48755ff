"""The rules of LANGUAGE.md that a simple look at the package's files can hold."""

import ast
import builtins
import pathlib
import re
import unittest

PACKAGE = pathlib.Path(__file__).resolve().parent.parent / "coinagree"
FILES = sorted(path for path in PACKAGE.rglob("*") if "__pycache__" not in path.parts)

STATEMENTS = (
    ast.Assign, ast.AugAssign, ast.If, ast.While, ast.For, ast.Return, ast.Break, ast.Continue, ast.Pass,
    ast.Raise, ast.Try, ast.Expr, ast.FunctionDef, ast.ClassDef, ast.ImportFrom,
)
FORBIDDEN_EXPRESSIONS = (
    ast.SetComp, ast.DictComp, ast.GeneratorExp, ast.NamedExpr, ast.Starred, ast.Div, ast.Yield, ast.Await,
)
OWN_NAMES = (
    "len range enumerate zip min max sum abs sorted reversed int str bool list tuple dict set frozenset "
    "isinstance ord repr any all divmod Exception ValueError TypeError KeyError IndexError LookupError "
    "ZeroDivisionError ArithmeticError OverflowError RuntimeError NotImplementedError AttributeError StopIteration"
).split()
METHODS = (
    "append clear copy count endswith extend find get index insert isalnum isalpha isdigit islower isspace isupper "
    "items join keys ljust lower lstrip partition pop remove replace reverse rfind rjust rpartition rsplit rstrip "
    "setdefault split splitlines startswith strip update upper values zfill bit_length"
).split()
WORDS_NOWHERE = (
    r"\b(type|typing|typing_extensions|enum|Enum|IntEnum|StrEnum|Flag|IntFlag|Generic|Protocol|ABC|ABCMeta|"
    r"namedtuple|NamedTuple|TypedDict|TYPE_CHECKING|abstractmethod)\b|dataclass|overload|contextmanager"
)


class LanguageTest(unittest.TestCase):
    def nodes(self, kind):
        for path in FILES:
            for node in ast.walk(ast.parse(path.read_text(encoding="ascii"))):
                if isinstance(node, kind):
                    yield path, node

    def test_files(self):
        self.assertIn(PACKAGE / "__init__.py", FILES)
        self.assertIn(PACKAGE / "desk.py", FILES)
        for path in FILES:
            self.assertRegex(path.name, r"^[a-z0-9_]+\.py$")
            self.assertTrue(path.stem == "__init__" or not hasattr(builtins, path.stem))
            text = path.read_text(encoding="ascii")
            self.assertRegex(text, r"\A[ -~\n]*\Z")
            self.assertNotRegex(text, WORDS_NOWHERE)
            self.assertLessEqual(len(text.splitlines()), 400)
            self.assertLessEqual(max(len(line) for line in text.splitlines()), 120)

    def test_functions(self):
        for path, node in self.nodes((ast.FunctionDef, ast.ClassDef)):
            self.assertEqual(node.decorator_list, [])
            self.assertRegex(node.name, r"^(__init__|[A-Za-z][A-Za-z0-9_]*)$")
            # A text by itself stands at a file's top alone.
            self.assertIsNone(ast.get_docstring(node))
            if isinstance(node, ast.FunctionDef):
                self.assertLessEqual(node.end_lineno - node.lineno + 1, 40)
                self.assertIsNone(node.args.vararg or node.args.kwarg)
                self.assertEqual(node.args.kwonlyargs, [])

    def test_statements_and_expressions(self):
        for path, node in self.nodes(ast.stmt):
            self.assertIsInstance(node, STATEMENTS)
            if isinstance(node, (ast.For, ast.While)):
                self.assertEqual(node.orelse, [])
            if isinstance(node, ast.Assign):
                self.assertEqual(len(node.targets), 1)
                self.assertNotIsInstance(node.targets[0], (ast.Tuple, ast.List))
        for path, node in self.nodes(FORBIDDEN_EXPRESSIONS):
            self.fail(f"{path.name}: {node}")
        for path, node in self.nodes(ast.Constant):
            self.assertIn(type(node.value), (int, str, bool, type(None)))

    def test_imports(self):
        for path, node in self.nodes(ast.ImportFrom):
            self.assertEqual(node.level, 0)
            self.assertRegex(node.module, r"^coinagree\.[a-z0-9_]+$")
            for name in node.names:
                self.assertIsNone(name.asname)
                self.assertNotEqual(name.name, "*")

    def test_names(self):
        for path, node in self.nodes(ast.Name):
            self.assertFalse(node.id.startswith("_"))
            if hasattr(builtins, node.id):
                self.assertIn(node.id, OWN_NAMES)
                self.assertIsInstance(node.ctx, ast.Load)
        for path, node in self.nodes(ast.arg):
            self.assertFalse(hasattr(builtins, node.arg))

    def test_attributes(self):
        own = {node.name for path, node in self.nodes(ast.FunctionDef)}
        own |= {node.attr for path, node in self.nodes(ast.Attribute) if isinstance(node.ctx, ast.Store)}
        for path, node in self.nodes(ast.Attribute):
            self.assertTrue(node.attr in own or node.attr in METHODS, node.attr)

    def test_imports_go_one_way(self):
        draws = {}
        for path, node in self.nodes(ast.ImportFrom):
            draws.setdefault(path.stem, set()).add(re.sub(r"^coinagree\.", "", node.module))
        while draws:
            free = [name for name in draws if not draws[name] & set(draws)]
            self.assertNotEqual(free, [], "files draw from one another")
            for name in free:
                del draws[name]


if __name__ == "__main__":
    unittest.main()

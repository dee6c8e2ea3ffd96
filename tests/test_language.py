"""The rules of the language that a look at the package's files can tell."""

import ast
import builtins
import pathlib
import re
import unittest

PACKAGE = pathlib.Path(__file__).resolve().parent.parent / "stonesgame"
FILES = sorted(PACKAGE.glob("*.py"))

STATEMENTS = (ast.Module, ast.FunctionDef, ast.ClassDef, ast.ImportFrom, ast.alias, ast.arguments, ast.arg,
              ast.Assign, ast.AugAssign, ast.If, ast.While, ast.For, ast.Return, ast.Break, ast.Continue,
              ast.Pass, ast.Raise, ast.Try, ast.ExceptHandler, ast.Expr)
EXPRESSIONS = (ast.Constant, ast.Name, ast.List, ast.Tuple, ast.Dict, ast.BinOp, ast.UnaryOp, ast.BoolOp,
               ast.Compare, ast.IfExp, ast.Call, ast.Attribute, ast.Subscript, ast.Slice, ast.ListComp,
               ast.comprehension, ast.Lambda, ast.JoinedStr, ast.FormattedValue, ast.keyword,
               ast.expr_context, ast.operator, ast.unaryop, ast.boolop, ast.cmpop)
NOT_USED = (ast.Div, ast.MatMult)

OWN_NAMES = set("""len range enumerate zip min max sum abs sorted reversed int str bool list tuple dict set
frozenset isinstance ord repr any all divmod Exception ValueError TypeError KeyError IndexError LookupError
ZeroDivisionError ArithmeticError OverflowError RuntimeError NotImplementedError AttributeError
StopIteration""".split())
METHODS = set("""append clear copy count endswith extend find get index insert isalnum isalpha isdigit islower
isspace isupper items join keys ljust lower lstrip partition pop remove replace reverse rfind rjust rpartition
rsplit rstrip setdefault split splitlines startswith strip update upper values zfill bit_length""".split())
PYTHONS = {name for kind in (str, int, list, dict, set, bytes, tuple) for name in dir(kind)}
WORDS = """type typing typing_extensions enum Enum IntEnum StrEnum Flag IntFlag Generic Protocol ABC ABCMeta
namedtuple NamedTuple TypedDict TYPE_CHECKING abstractmethod""".split()


def nodes(path, *kinds):
    tree = ast.parse(path.read_text())
    return [node for node in ast.walk(tree) if not kinds or isinstance(node, kinds)]


class Language(unittest.TestCase):
    def test_files(self):
        self.assertIn(PACKAGE / "board.py", FILES)
        for path in PACKAGE.iterdir():
            self.assertTrue(path in FILES or path.name == "__pycache__", path)
            self.assertRegex(path.name, r"^[a-z_][a-z0-9_]*(\.py)?$")

    def test_signs_and_size(self):
        for path in FILES:
            text = path.read_text()
            self.assertRegex(text, r"\A[ -~\n]*\Z", path)
            rows = text.split("\n")
            self.assertLessEqual(len(rows), 400, path)
            self.assertLessEqual(max(len(row) for row in rows), 120, path)
            for node in nodes(path, ast.FunctionDef):
                self.assertLessEqual(node.end_lineno - node.lineno + 1, 40, (path, node.name))

    def test_words(self):
        for path in FILES:
            text = path.read_text()
            for word in WORDS:
                self.assertIsNone(re.search(rf"\b{word}\b", text), (path, word))
            for word in ("dataclass", "overload", "contextmanager"):
                self.assertNotIn(word, text, path)

    def test_statements_and_expressions(self):
        for path in FILES:
            for node in nodes(path):
                where = (path, getattr(node, "lineno", None), node)
                self.assertIsInstance(node, STATEMENTS + EXPRESSIONS, where)
                self.assertNotIsInstance(node, NOT_USED, where)
                if isinstance(node, (ast.For, ast.While)):
                    self.assertEqual(node.orelse, [], where)
                if isinstance(node, ast.Assign):
                    self.assertEqual(len(node.targets), 1, where)
                    self.assertNotIsInstance(node.targets[0], (ast.Tuple, ast.List), where)
                if isinstance(node, (ast.FunctionDef, ast.ClassDef)):
                    self.assertEqual(node.decorator_list, [], where)
                if isinstance(node, ast.ListComp):
                    self.assertEqual(len(node.generators), 1, where)
                if isinstance(node, ast.Constant):
                    self.assertIn(type(node.value), (int, str, bool, type(None)), where)

    def test_imports(self):
        for path in FILES:
            for node in nodes(path, ast.ImportFrom):
                self.assertEqual(node.level, 0, path)
                self.assertRegex(node.module, r"^stonesgame\.[a-z]+$", path)
                self.assertNotIn("*", [alias.name for alias in node.names], path)

    def test_the_top_of_a_module_holds_plain_values(self):
        plain = (ast.Constant, ast.Dict, ast.List, ast.Tuple, ast.UnaryOp, ast.USub, ast.Name, ast.Load)
        for path in FILES:
            for node in ast.parse(path.read_text()).body:
                if isinstance(node, ast.Assign):
                    for part in ast.walk(node.value):
                        self.assertIsInstance(part, plain, (path, node.lineno))
                else:
                    self.assertIsInstance(node, (ast.Expr, ast.ImportFrom, ast.FunctionDef, ast.ClassDef), path)

    def test_no_local_is_called_like_an_import_or_a_class(self):
        for path in FILES:
            taken = {alias.name for node in nodes(path, ast.ImportFrom) for alias in node.names}
            taken |= {node.name for node in nodes(path, ast.ClassDef)}
            stored = {node.id for node in nodes(path, ast.Name) if isinstance(node.ctx, ast.Store)}
            stored |= {node.arg for node in nodes(path, ast.arg)}
            self.assertEqual(taken & stored, set(), path)

    def test_every_import_is_used_and_stands_in_the_file_that_defines_it(self):
        for path in FILES:
            used = {node.id for node in nodes(path, ast.Name)}
            for node in nodes(path, ast.ImportFrom):
                source = PACKAGE / (node.module.split(".")[1] + ".py")
                defined = {part.name for part in nodes(source, ast.FunctionDef, ast.ClassDef)}
                defined |= {part.id for part in nodes(source, ast.Name) if isinstance(part.ctx, ast.Store)}
                for alias in node.names:
                    self.assertIn(alias.name, used, path)
                    self.assertIn(alias.name, defined, path)

    def test_names(self):
        for path in FILES:
            for node in nodes(path, ast.Name):
                if hasattr(builtins, node.id):
                    self.assertIn(node.id, OWN_NAMES, (path, node.lineno))
                    self.assertIsInstance(node.ctx, ast.Load, (path, node.lineno))
                self.assertRegex(node.id, "^[A-Za-z]", (path, node.lineno))
            for node in nodes(path, ast.arg):
                self.assertFalse(hasattr(builtins, node.arg), (path, node.arg))
            for node in nodes(path, ast.Attribute):
                self.assertTrue(node.attr not in PYTHONS or node.attr in METHODS, (path, node.attr))


if __name__ == "__main__":
    unittest.main()

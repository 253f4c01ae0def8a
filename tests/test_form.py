"""The form of the package's files: those rules of the language that a look at the code can hold."""

import ast
import builtins
import pathlib
import re
import unittest

PACKAGE = pathlib.Path(__file__).resolve().parent.parent / "seenonway"
FILES = sorted(PACKAGE.rglob("*.py"))

STATEMENTS = (ast.FunctionDef, ast.ClassDef, ast.Assign, ast.AugAssign, ast.If, ast.While, ast.For, ast.Return,
              ast.Break, ast.Continue, ast.Pass, ast.Raise, ast.Try, ast.Expr, ast.ImportFrom)
EXPRESSIONS = (ast.Constant, ast.List, ast.Tuple, ast.Dict, ast.BinOp, ast.UnaryOp, ast.BoolOp, ast.Compare,
               ast.IfExp, ast.Call, ast.Attribute, ast.Subscript, ast.Slice, ast.ListComp, ast.Name, ast.Lambda,
               ast.JoinedStr, ast.FormattedValue)
OWN_NAMES = set("""len range enumerate zip min max sum abs sorted reversed int str bool list tuple dict set frozenset
    isinstance ord repr any all divmod Exception ValueError KeyError IndexError LookupError ZeroDivisionError
    ArithmeticError OverflowError RuntimeError NotImplementedError StopIteration""".split())
METHODS = set("""append clear copy count endswith extend find get index insert isalnum isalpha isdigit islower isspace
    isupper items join keys ljust lower lstrip partition pop remove replace reverse rfind rjust rpartition rsplit
    rstrip setdefault split splitlines startswith strip update upper values zfill bit_length""".split())
WORDS_NOWHERE = re.compile(r"\b(type|typing|typing_extensions|enum|Enum|IntEnum|StrEnum|Flag|IntFlag|Generic|Protocol"
                           r"|ABC|ABCMeta|namedtuple|NamedTuple|TypedDict|TYPE_CHECKING|abstractmethod)\b"
                           r"|dataclass|overload|contextmanager")


def nodes():
    for file in FILES:
        for node in ast.walk(ast.parse(file.read_text(encoding="ascii"))):
            yield file, node


class Files(unittest.TestCase):
    def test_nothing_but_python_files(self):
        self.assertIn(PACKAGE / "__init__.py", FILES)
        for path in PACKAGE.rglob("*"):
            if "__pycache__" not in path.parts:
                self.assertRegex(path.name, r"\A[a-z0-9_]+(\.py)?\Z")

    def test_signs_and_sizes(self):
        for file in FILES:
            text = file.read_bytes().decode("ascii")
            self.assertRegex(text, r"\A[ -~\n]*\Z", file)
            lines = text.split("\n")
            self.assertLessEqual(len(lines), 400, file)
            self.assertLessEqual(max(len(line) for line in lines), 120, file)
            self.assertIsNone(WORDS_NOWHERE.search(text), file)

    def test_size_of_functions(self):
        for file, node in nodes():
            if isinstance(node, ast.FunctionDef):
                self.assertLessEqual(node.end_lineno - node.lineno + 1, 40, node.name)


class Code(unittest.TestCase):
    def test_statements_and_expressions(self):
        for file, node in nodes():
            if isinstance(node, ast.stmt):
                self.assertIsInstance(node, STATEMENTS, (file, node.lineno))
            if isinstance(node, ast.expr):
                self.assertIsInstance(node, EXPRESSIONS, (file, node.lineno))
            if isinstance(node, (ast.For, ast.While)):
                self.assertEqual(node.orelse, [])
            if isinstance(node, ast.Assign):
                self.assertEqual(len(node.targets), 1)
            self.assertNotIsInstance(node, (ast.Div, ast.Is, ast.IsNot))

    def test_functions(self):
        for file, node in nodes():
            if isinstance(node, ast.FunctionDef):
                self.assertEqual(node.decorator_list, [])
                self.assertIsNone(node.args.vararg or node.args.kwarg)
                self.assertEqual(node.args.kwonlyargs, [])

    def test_names(self):
        for file, node in nodes():
            bound = []
            if isinstance(node, ast.Name) and isinstance(node.ctx, ast.Store):
                bound = [node.id]
            elif isinstance(node, ast.FunctionDef):
                bound = [node.name]
            elif isinstance(node, ast.arg):
                bound = [node.arg]
            for name in bound:
                self.assertNotIn(name, dir(builtins), file)
                self.assertRegex(name, r"\A[A-Za-z][A-Za-z0-9_]*\Z")
            if isinstance(node, ast.Name) and node.id in dir(builtins):
                self.assertIn(node.id, OWN_NAMES, (file, node.lineno))
            if isinstance(node, ast.Attribute):
                self.assertIn(node.attr, METHODS, (file, node.lineno))

    def test_top_of_each_file(self):
        for file in FILES:
            body = ast.parse(file.read_text(encoding="ascii")).body
            self.assertIsInstance(body[0].value.value, str, file)
            names = []
            for node in body[1:]:
                self.assertIsInstance(node, (ast.FunctionDef, ast.Assign), (file, node.lineno))
                names.append(node.name if isinstance(node, ast.FunctionDef) else node.targets[0].id)
            self.assertEqual(len(names), len(set(names)), file)


if __name__ == "__main__":
    unittest.main()

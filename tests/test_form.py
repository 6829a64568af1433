"""That the package keeps to its small part of Python, as far as a look at its files shows."""
import ast
import pathlib
import re
import unittest

from witnessedmost import linear

PACKAGE = pathlib.Path(linear.__file__).parent
BUILT_IN = """len range enumerate zip min max sum abs sorted reversed int str bool list tuple dict set frozenset
isinstance ord repr any all divmod""".split()
METHODS = """append clear copy count endswith extend find get index insert isalnum isalpha isdigit islower isspace
isupper items join keys ljust lower lstrip partition pop remove replace reverse rfind rjust rpartition rsplit rstrip
setdefault split splitlines startswith strip update upper values zfill bit_length""".split()
NOWHERE = """type typing typing_extensions enum Enum IntEnum StrEnum Flag IntFlag Generic Protocol ABC ABCMeta
namedtuple NamedTuple TypedDict TYPE_CHECKING abstractmethod""".split()
STATEMENTS = (ast.FunctionDef, ast.Assign, ast.AugAssign, ast.If, ast.While, ast.For, ast.Return, ast.Break,
              ast.Continue, ast.Pass, ast.Expr)
REFUSED = (ast.Div, ast.SetComp, ast.DictComp, ast.GeneratorExp, ast.NamedExpr, ast.Starred, ast.Set, ast.Lambda,
           ast.Import, ast.ImportFrom, ast.Global, ast.Nonlocal)


def files():
    return sorted(PACKAGE.glob("*.py"))


def nodes(kind):
    for path in files():
        for node in ast.walk(ast.parse(path.read_text())):
            if isinstance(node, kind):
                yield path.name, node


class Form(unittest.TestCase):
    def test_only_python_files(self):
        names = [path.name for path in PACKAGE.iterdir() if path.name != "__pycache__"]
        self.assertEqual(sorted(names), ["__init__.py", "linear.py"])

    def test_size_and_signs(self):
        for path in files():
            text = path.read_text()
            lines = text.split("\n")
            self.assertLessEqual(len(lines), 400)
            self.assertLessEqual(max(len(line) for line in lines), 120)
            self.assertTrue(all(" " <= sign <= "~" or sign == "\n" for sign in text))
            self.assertEqual([word for word in re.findall(r"\w+", text) if word in NOWHERE], [])
        for name, node in nodes(ast.FunctionDef):
            self.assertLessEqual(node.end_lineno - node.lineno + 1, 40, node.name)

    def test_statements_and_expressions(self):
        for name, node in nodes(ast.stmt):
            self.assertIsInstance(node, STATEMENTS)
        for name, node in nodes(REFUSED):
            self.fail((name, node))
        for name, node in nodes(ast.Assign):
            self.assertEqual(len(node.targets), 1)
            self.assertNotIsInstance(node.targets[0], (ast.Tuple, ast.List))
        for name, node in nodes(ast.ListComp):
            self.assertEqual(len(node.generators), 1)
        for name, node in nodes(ast.Constant):
            self.assertIsInstance(node.value, (int, str, type(None)))
        for name, node in nodes((ast.For, ast.While)):
            self.assertEqual(node.orelse, [])

    def test_names(self):
        own = [node.name for name, node in nodes(ast.FunctionDef)]
        self.assertEqual(len(own), len(set(own)))
        for name, node in nodes(ast.Call):
            if isinstance(node.func, ast.Attribute):
                self.assertIn(node.func.attr, METHODS)
            else:
                self.assertIn(node.func.id, own + BUILT_IN)
        for name, node in nodes((ast.Name, ast.arg)):
            word = node.id if isinstance(node, ast.Name) else node.arg
            self.assertRegex(word, "^[A-Za-z][A-Za-z0-9_]*$")
            if isinstance(node, ast.arg) or isinstance(node.ctx, ast.Store):
                self.assertNotIn(word, dir(__builtins__) if not isinstance(__builtins__, dict) else __builtins__)

    def test_no_list_is_kept_at_the_top(self):
        for path in files():
            for node in ast.parse(path.read_text()).body:
                if isinstance(node, ast.Assign):
                    self.assertIsInstance(node.value, ast.Constant)

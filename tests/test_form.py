"""The form of the package's files, as far as it is seen at a glance."""

import ast
import builtins
import pathlib
import re
import unittest

PACKAGE = pathlib.Path(__file__).resolve().parent.parent / "learntpath"

STATEMENTS = (ast.Assign, ast.If, ast.While, ast.For, ast.Return, ast.Break, ast.Continue, ast.Pass, ast.Raise,
              ast.Expr, ast.FunctionDef, ast.ClassDef, ast.ImportFrom)
EXPRESSIONS = (ast.Constant, ast.Name, ast.List, ast.Tuple, ast.Dict, ast.BinOp, ast.UnaryOp, ast.Compare, ast.BoolOp,
               ast.IfExp, ast.Call, ast.Attribute, ast.Subscript, ast.Slice, ast.ListComp, ast.Lambda)
OWN_NAMES = """len range enumerate zip min max sum abs sorted reversed int str bool list tuple dict isinstance ord repr
any all divmod""".split()
OWN_METHODS = """append clear copy count extend get index insert items keys pop remove reverse setdefault update values
bit_length""".split()
WORDS = """type typing enum Enum Flag Generic Protocol ABC namedtuple NamedTuple TypedDict dataclass overload
contextmanager""".split()


def files():
    return sorted(path for path in PACKAGE.iterdir() if path.name != "__pycache__")


class Form(unittest.TestCase):
    def test_only_python_files_with_an_init(self):
        self.assertIn(PACKAGE / "__init__.py", files())
        for path in files():
            self.assertRegex(path.name, r"\A[a-z0-9_]+\.py\Z")

    def test_signs_and_sizes(self):
        for path in files():
            text = path.read_bytes().decode("ascii")
            rows = text.split("\n")
            self.assertLessEqual(len(rows), 401, path)
            for row in rows:
                self.assertTrue(len(row) <= 120 and all(" " <= sign <= "~" for sign in row), (path, row))

    def test_functions_are_short(self):
        for path in files():
            for node in ast.walk(ast.parse(path.read_text())):
                if isinstance(node, ast.FunctionDef):
                    self.assertLessEqual(node.end_lineno - node.lineno + 1, 40, (path, node.name))

    def test_imports_only_its_own_modules(self):
        for path in files():
            for node in ast.walk(ast.parse(path.read_text())):
                self.assertNotIsInstance(node, ast.Import, path)
                if isinstance(node, ast.ImportFrom):
                    self.assertTrue(node.level == 0 and node.module.startswith("learntpath."), path)

    def test_only_the_plain_part_of_the_language(self):
        for path in files():
            for node in ast.walk(ast.parse(path.read_text())):
                if isinstance(node, ast.stmt):
                    self.assertIsInstance(node, STATEMENTS, path)
                if isinstance(node, ast.expr):
                    self.assertIsInstance(node, EXPRESSIONS, (path, node.lineno))
                if isinstance(node, ast.Assign):
                    self.assertFalse(len(node.targets) > 1 or isinstance(node.targets[0], ast.Tuple), node.lineno)
                if isinstance(node, ast.BinOp):
                    self.assertNotIsInstance(node.op, (ast.Div, ast.Pow), (path, node.lineno))

    def test_only_the_plain_names_of_python(self):
        for path in files():
            for node in ast.walk(ast.parse(path.read_text())):
                if isinstance(node, ast.Name) and hasattr(builtins, node.id):
                    self.assertIn(node.id, OWN_NAMES, (path, node.lineno))
                if isinstance(node, ast.Name) and isinstance(node.ctx, ast.Store):
                    self.assertFalse(hasattr(builtins, node.id), (path, node.lineno))
                if isinstance(node, ast.arg):
                    self.assertFalse(hasattr(builtins, node.arg), (path, node.lineno))

    def test_only_plain_methods(self):
        trees = [ast.parse(path.read_text()) for path in files()]
        nodes = [node for tree in trees for node in ast.walk(tree)]
        own = [node.name for node in nodes if isinstance(node, ast.FunctionDef)]
        for node in nodes:
            if isinstance(node, ast.Call) and isinstance(node.func, ast.Attribute):
                self.assertIn(node.func.attr, OWN_METHODS + own, node.lineno)

    def test_words_that_stand_nowhere(self):
        for path in files():
            found = re.findall(r"[A-Za-z0-9_]+", path.read_text())
            self.assertEqual([word for word in found if word in WORDS], [], path)


if __name__ == "__main__":
    unittest.main()

"""The form of the package's files, as far as it is seen at a glance."""

import ast
import pathlib
import unittest

PACKAGE = pathlib.Path(__file__).resolve().parent.parent / "learntpath"


def files():
    return sorted(path for path in PACKAGE.iterdir() if path.name != "__pycache__")


class Form(unittest.TestCase):
    def test_only_python_files_with_an_init(self):
        self.assertIn(PACKAGE / "__init__.py", files())
        for path in files():
            self.assertRegex(path.name, r"\A[a-z0-9_]+\.py\Z")

    def test_signs_and_sizes(self):
        for path in files():
            text = path.read_bytes().decode("ascii")
            rows = text.split("\n")
            self.assertLessEqual(len(rows), 401, path)
            for row in rows:
                self.assertTrue(len(row) <= 120 and all(" " <= sign <= "~" for sign in row), (path, row))

    def test_functions_are_short(self):
        for path in files():
            for node in ast.walk(ast.parse(path.read_text())):
                if isinstance(node, ast.FunctionDef):
                    self.assertLessEqual(node.end_lineno - node.lineno + 1, 40, (path, node.name))

    def test_imports_only_its_own_modules(self):
        for path in files():
            for node in ast.walk(ast.parse(path.read_text())):
                self.assertNotIsInstance(node, ast.Import, path)
                if isinstance(node, ast.ImportFrom):
                    self.assertTrue(node.level == 0 and node.module.startswith("learntpath."), path)


if __name__ == "__main__":
    unittest.main()

"""The package's files and some of the rules that its code keeps to (shared/LANGUAGE.md)."""

import ast
import os
import subprocess
import sys
import unittest

ROOT = os.path.dirname(os.path.dirname(os.path.abspath(__file__)))
PACKAGE = os.path.join(ROOT, "groundlots")
FILES = ["__init__.py", "errors.py", "rules.py", "words.py"]
IN_ORDER = ["errors", "words", "rules"]


def source(name):
    with open(os.path.join(PACKAGE, name), encoding="utf-8") as file:
        return file.read()


def tree(name):
    return ast.parse(source(name))


class Package(unittest.TestCase):
    def test_the_folder_has_these_files_and_nothing_else(self):
        there = [name for name in os.listdir(PACKAGE) if name != "__pycache__"]
        self.assertEqual(sorted(there), FILES)

    def test_init_binds_nothing(self):
        ask = "import groundlots; print([name for name in vars(groundlots) if not name.startswith('__')])"
        told = subprocess.run([sys.executable, "-c", ask], cwd=ROOT, check=True, capture_output=True, text=True)
        self.assertEqual(told.stdout, "[]\n")
        for row in tree("__init__.py").body:
            self.assertIsInstance(row, ast.Expr)
            self.assertIsInstance(row.value, ast.Constant)

    def test_files_import_from_files_ahead_of_them_alone(self):
        for at, module in enumerate(IN_ORDER):
            allowed = [f"groundlots.{name}" for name in IN_ORDER[:at]]
            for node in ast.walk(tree(f"{module}.py")):
                self.assertNotIsInstance(node, ast.Import, module)
                if isinstance(node, ast.ImportFrom):
                    self.assertEqual(node.level, 0)
                    self.assertIn(node.module, allowed)


class Sizes(unittest.TestCase):
    def test_lines_and_signs(self):
        for name in FILES:
            rows = source(name).split("\n")
            self.assertLess(len(rows), 400, name)
            for row in rows:
                self.assertLessEqual(len(row), 120, (name, row))
                self.assertTrue(all(" " <= sign <= "~" for sign in row), (name, row))

    def test_functions(self):
        for name in FILES:
            for node in ast.walk(tree(name)):
                if isinstance(node, ast.FunctionDef):
                    self.assertLessEqual(node.end_lineno - node.lineno + 1, 40, (name, node.name))
                    self.assertEqual(node.decorator_list, [])

    def test_module_level(self):
        kinds = (ast.Expr, ast.ImportFrom, ast.FunctionDef, ast.ClassDef, ast.Assign)
        for name in FILES:
            for row in tree(name).body:
                self.assertIsInstance(row, kinds, name)
                if isinstance(row, ast.Assign):
                    ast.literal_eval(row.value)


if __name__ == "__main__":
    unittest.main()

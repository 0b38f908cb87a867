"""The files of the package: what stands in them, and how they are written."""

import ast
import doctest
import os
import unittest

import holedwindows
from tests.interface import CLASSES, INTERFACE

FOLDER = os.path.dirname(os.path.abspath(holedwindows.__file__))
README = os.path.join(os.path.dirname(FOLDER), "README.md")



def source(name):
    """Return the text of a file of the package."""
    with open(os.path.join(FOLDER, name), encoding="utf-8", newline="") as file:
        return file.read()


def files():
    """Return the names of the files of the package."""
    return [name for name in sorted(os.listdir(FOLDER)) if name != "__pycache__"]


class Interface(unittest.TestCase):
    def test_each_function_is_defined_in_its_own_file(self):
        for name, functions in INTERFACE.items():
            tree = ast.parse(source(name))
            defined = {
                node.name: [told.arg for told in node.args.args]
                for node in tree.body if isinstance(node, ast.FunctionDef)}
            for function, arguments in functions.items():
                with self.subTest(file=name, function=function):
                    self.assertEqual(defined.get(function), arguments)

    def test_each_class_defines_its_methods_itself(self):
        for name, classes in CLASSES.items():
            defined = {
                node.name: node for node in ast.parse(source(name)).body if isinstance(node, ast.ClassDef)}
            for told, methods in classes.items():
                found = {
                    node.name: [argument.arg for argument in node.args.args][1:]
                    for node in defined[told].body if isinstance(node, ast.FunctionDef)}
                for method, arguments in methods.items():
                    with self.subTest(file=name, method=method):
                        self.assertEqual(found.get(method), arguments)


class Files(unittest.TestCase):
    def test_the_folder_has_python_files_alone(self):
        self.assertIn("__init__.py", files())
        for name in files():
            self.assertTrue(name.endswith(".py"), name)

    def test_sizes_and_characters(self):
        for name in files():
            with self.subTest(file=name):
                lines = source(name).split("\n")
                self.assertLessEqual(len(lines), 400)
                for line in lines:
                    self.assertLessEqual(len(line), 120)
                    self.assertTrue(all(" " <= sign <= "~" for sign in line), line)

    def test_functions_have_at_most_40_lines(self):
        for name in files():
            for node in ast.walk(ast.parse(source(name))):
                if isinstance(node, ast.FunctionDef):
                    self.assertLessEqual(node.end_lineno - node.lineno + 1, 40, node.name)

    def test_the_package_imports_from_itself_alone(self):
        for name in files():
            for node in ast.walk(ast.parse(source(name))):
                self.assertNotIsInstance(node, ast.Import)
                if isinstance(node, ast.ImportFrom):
                    self.assertTrue(node.module.startswith("holedwindows."), node.module)


class Readme(unittest.TestCase):
    def test_its_examples_hold(self):
        result = doctest.testfile(README, module_relative=False)
        self.assertGreater(result.attempted, 0)
        self.assertEqual(result.failed, 0)


if __name__ == "__main__":
    unittest.main()

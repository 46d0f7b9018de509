"""The package as a whole: where the interface stands, and the rules for its files."""

import ast
import importlib
import inspect
import unittest

from interface import ARGUMENTS, FOLDER, INTERFACE, METHOD_ARGUMENTS, METHODS, sources


def arguments(called):
    """Return the names of the arguments of a function or a class, in one string."""
    return " ".join(inspect.signature(called).parameters)


class InterfaceTest(unittest.TestCase):
    def test_everything_is_defined_in_its_file(self):
        for file, names in INTERFACE.items():
            tree = ast.parse((FOLDER / f"{file}.py").read_text(encoding="utf-8"))
            defined = [row.name for row in tree.body if isinstance(row, (ast.FunctionDef, ast.ClassDef))]
            for name in names:
                with self.subTest(file=file, name=name):
                    self.assertIn(name, defined)
                    self.assertTrue(hasattr(importlib.import_module(f"waypapers.{file}"), name))

    def test_methods_stand_in_the_class_itself(self):
        for told, names in METHODS.items():
            for name in names:
                with self.subTest(told=told, name=name):
                    self.assertIn(name, vars(told))

    def test_arguments(self):
        for place, expected in ARGUMENTS.items():
            file, name = place.split(".")
            with self.subTest(place=place):
                self.assertEqual(arguments(getattr(importlib.import_module(f"waypapers.{file}"), name)), expected)
        for told, rows in METHOD_ARGUMENTS.items():
            for name, expected in rows.items():
                with self.subTest(told=told, name=name):
                    self.assertEqual(arguments(getattr(told, name)), f"self {expected}".strip())

    def test_init_defines_nothing(self):
        self.assertEqual(ast.parse((FOLDER / "__init__.py").read_text(encoding="utf-8")).body, [])


class FilesTest(unittest.TestCase):
    def test_the_folder_contains_files_of_code_only(self):
        others = [path.name for path in FOLDER.iterdir() if path.suffix != ".py" and path.name != "__pycache__"]
        self.assertEqual(others, [])

    def test_characters_and_sizes(self):
        for path, text in sources():
            with self.subTest(file=path.name):
                self.assertTrue(all(sign == "\n" or " " <= sign <= "~" for sign in text))
                lines = text.split("\n")
                self.assertLessEqual(len(lines), 399)
                self.assertLessEqual(max(len(line) for line in lines), 120)

    def test_sizes_of_functions(self):
        for path, text in sources():
            for node in ast.walk(ast.parse(text)):
                if isinstance(node, ast.FunctionDef):
                    with self.subTest(file=path.name, name=node.name):
                        self.assertLessEqual(node.end_lineno - node.lineno + 1, 40)

    def test_imports_are_from_the_package_or_of_heaps(self):
        for path, text in sources():
            for node in ast.walk(ast.parse(text)):
                with self.subTest(file=path.name):
                    self.assertNotIsInstance(node, ast.Import)
                    if isinstance(node, ast.ImportFrom) and node.module != "heapq":
                        self.assertTrue(node.module.startswith("waypapers."))
                        self.assertEqual(node.level, 0)


if __name__ == "__main__":
    unittest.main()

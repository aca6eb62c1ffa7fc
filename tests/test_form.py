"""The form of the package: its files, their sizes and imports, and the names of the interface."""

import ast
import inspect
import pathlib
import unittest

from onerest import books, errors, trees

FOLDER = pathlib.Path(__file__).resolve().parent.parent / "onerest"
FILES = sorted(FOLDER.glob("*.py"))

INTERFACE = {
    (books, "is_book"): ["thing"],
    (books, "rules_for"): ["book", "above", "own"],
    (trees, "is_tree"): ["book", "thing"],
    (trees, "state_above"): ["book", "tree", "node"],
    (trees, "children_of"): ["book", "tree", "node"],
    (trees, "tree_depth"): ["book", "tree"],
    (trees, "enabled_steps"): ["book", "tree"],
    (trees, "fire_step"): ["book", "tree", "step"],
    (trees, "run_steps"): ["book", "tree", "steps"],
    (trees, "is_at_rest"): ["book", "tree"],
    (errors, "BadStep"): ["place"],
    (errors, "BadWay"): ["place"],
    (errors, "BadText"): ["line"],
}


class Form(unittest.TestCase):
    def test_names_and_parameters_stand_as_the_interface_lists_them(self):
        for (module, name), parameters in INTERFACE.items():
            with self.subTest(name=name):
                found = getattr(module, name)
                self.assertEqual(found.__module__, module.__name__)
                self.assertEqual(list(inspect.signature(found).parameters), parameters)

    def test_the_folder_holds_python_files_only(self):
        others = [path.name for path in FOLDER.iterdir() if path not in FILES and path.name != "__pycache__"]
        self.assertEqual(others, [])
        self.assertIn(FOLDER / "__init__.py", FILES)

    def test_characters_and_sizes(self):
        for path in FILES:
            text = path.read_bytes().decode("ascii")
            lines = text.split("\n")
            self.assertLessEqual(len(lines), 399, path)
            self.assertLessEqual(max(len(line) for line in lines), 120, path)
            self.assertEqual({sign for sign in text if sign != "\n" and not " " <= sign <= "~"}, set(), path)
            for node in ast.walk(ast.parse(text)):
                if isinstance(node, ast.FunctionDef):
                    self.assertLessEqual(node.end_lineno - node.lineno + 1, 40, node.name)

    def test_imports_come_from_the_package_by_full_names(self):
        for path in FILES:
            for node in ast.walk(ast.parse(path.read_text())):
                self.assertNotIsInstance(node, ast.Import, path)
                if isinstance(node, ast.ImportFrom):
                    self.assertEqual(node.module.split(".")[0], "onerest", path)


if __name__ == "__main__":
    unittest.main()

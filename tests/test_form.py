"""The form of the package: its files, their sizes and imports, and the names of the interface."""

import ast
import builtins
import inspect
import pathlib
import unittest

from onerest import books, compared, desk, ends, errors, hands, live, longlines, outcomes, readers, rounds, rulebooks
from onerest import texts, trees, unknown, ways, wishes

FOLDER = pathlib.Path(__file__).resolve().parent.parent / "onerest"
FILES = sorted(FOLDER.glob("*.py"))

INTERFACE = {
    (books, "is_book"): ["thing"],
    (books, "rules_for"): ["book", "above", "own"],
    (trees, "is_tree"): ["book", "thing"],
    (trees, "state_above"): ["book", "tree", "node"],
    (trees, "children_of"): ["book", "tree", "node"],
    (trees, "tree_depth"): ["book", "tree"],
    (trees, "enabled_steps"): ["book", "tree"],
    (trees, "fire_step"): ["book", "tree", "step"],
    (trees, "run_steps"): ["book", "tree", "steps"],
    (trees, "is_at_rest"): ["book", "tree"],
    (ends, "ending_of"): ["book"],
    (ends, "ending_holds"): ["book", "certificate"],
    (ends, "step_bounds"): ["book", "tree"],
    (ways, "way_result"): ["book", "above", "own", "numbers"],
    (ways, "node_rests"): ["book", "above", "own"],
    (ways, "node_results"): ["book", "above", "own", "child"],
    (ways, "first_way"): ["book", "above", "own"],
    (outcomes, "outcome_of"): ["book"],
    (outcomes, "outcome_holds"): ["book", "certificate"],
    (readers, "rest_of"): ["book", "tree"],
    (readers, "join_runs"): ["book", "tree", "one", "other"],
    (readers, "is_reader"): ["book", "thing"],
    (readers, "read_states"): ["reader", "tree"],
    (readers, "reader_of"): ["book"],
    (readers, "reader_holds"): ["book", "reader"],
    (readers, "joined_reader"): ["reader", "other"],
    (compared, "first_difference"): ["book", "other"],
    (compared, "first_clash"): ["book", "other"],
    (compared, "spare_rules"): ["book"],
    (compared, "fewest_rules"): ["book"],
    (compared, "fewest_removals"): ["book"],
    (hands, "changed_nodes"): ["book", "tree", "node", "state"],
    (hands, "change_reach"): ["book"],
    (hands, "reach_ranks"): ["book"],
    (hands, "touched_states"): ["book", "held"],
    (wishes, "least_changes"): ["book", "tree", "node", "state"],
    (wishes, "shortest_with"): ["book", "outside", "above", "own"],
    (longlines, "long_length"): ["book", "line"],
    (longlines, "long_state"): ["book", "line", "index"],
    (longlines, "long_rest_state"): ["book", "line", "index"],
    (longlines, "long_rest_counts"): ["book", "line"],
    (longlines, "long_rest_index"): ["book", "line", "state", "number"],
    (longlines, "long_change"): ["book", "line", "index", "state"],
    (unknown, "possible_rests"): ["book", "open_tree"],
    (unknown, "filling_for"): ["book", "open_tree", "node", "state"],
    (unknown, "count_sources"): ["book", "tree"],
    (unknown, "count_rests"): ["book", "tree"],
    (rounds, "run_round"): ["book", "tree", "order"],
    (rounds, "count_rounds"): ["book", "tree", "order"],
    (rulebooks, "RuleBook"): ["n"],
    (live, "Live"): ["book", "tree"],
    (texts, "show_book"): ["book"],
    (texts, "show_tree"): ["book", "tree"],
    (texts, "show_run"): ["steps"],
    (texts, "read_book"): ["text"],
    (texts, "read_tree"): ["book", "text"],
    (texts, "read_run"): ["text"],
    (desk, "Desk"): [],
    (errors, "BadStep"): ["place"],
    (errors, "BadWay"): ["place"],
    (errors, "BadText"): ["line"],
}

# The parameters of the methods that the interface names; those of signs may have any name.
CLASSES = {
    rulebooks.RuleBook: {"is_within": ["other"], "__call__": ["tree"], "told": []},
    live.Live: {
        "fire": ["node", "rule"], "add": ["parent", "state"], "settle": [], "apply": ["changes"], "undo": [],
        "tree": [], "changes": [], "copy": [],
    },
    desk.Desk: {"say": ["row"]},
}
SIGNS = {
    rulebooks.RuleBook: ["__add__", "__sub__", "__contains__", "__len__", "__getitem__", "__eq__"],
    live.Live: ["__getitem__", "__setitem__", "__len__", "__contains__", "__eq__"],
    desk.Desk: [],
}

# The builtins and the methods of their values that the package uses, all of them plain ones.
BUILTINS = {
    "TypeError", "ValueError", "all", "any", "dict", "divmod", "enumerate", "int", "bool", "isinstance", "len", "list",
    "max", "min", "range", "set", "sorted", "str", "sum", "tuple", "zip",
}
METHODS = {
    "append", "count", "extend", "get", "index", "isascii", "isdigit", "join", "pop", "setdefault", "split", "__init__",
}
OWN_METHODS = {"told", "changes", "_become", "_with_state"}
STATEMENTS = (ast.Global, ast.Nonlocal, ast.Try, ast.With, ast.AsyncFunctionDef, ast.Yield, ast.GeneratorExp, ast.Set)


def names_bound(tree):
    """The names of functions, classes, parameters and variables, wherever they stand."""
    for node in ast.walk(tree):
        if isinstance(node, (ast.FunctionDef, ast.ClassDef)):
            yield node.name
        elif isinstance(node, ast.arg):
            yield node.arg
        elif isinstance(node, ast.Name) and isinstance(node.ctx, ast.Store):
            yield node.id


def is_above(function, node):
    return isinstance(function, ast.FunctionDef) and function.lineno < node.lineno


def functions_in(tree):
    """The functions of a file, and the methods of its classes."""
    for node in tree.body:
        if isinstance(node, ast.FunctionDef):
            yield node
        elif isinstance(node, ast.ClassDef):
            yield from [part for part in node.body if isinstance(part, ast.FunctionDef)]


class Form(unittest.TestCase):
    def test_names_and_parameters_stand_as_the_interface_lists_them(self):
        for (module, name), parameters in INTERFACE.items():
            with self.subTest(name=name):
                found = getattr(module, name)
                self.assertEqual(found.__module__, module.__name__)
                self.assertEqual(list(inspect.signature(found).parameters), parameters)

    def test_methods_stand_in_the_classes_that_the_interface_lists_them_for(self):
        for found, methods in CLASSES.items():
            for name, parameters in methods.items():
                with self.subTest(name=name):
                    self.assertEqual(list(inspect.signature(vars(found)[name]).parameters), ["self", *parameters])
            for name in SIGNS[found]:
                self.assertIn(name, vars(found))

    def test_the_folder_holds_python_files_only(self):
        others = [path.name for path in FOLDER.iterdir() if path not in FILES and path.name != "__pycache__"]
        self.assertEqual(others, [])
        self.assertIn(FOLDER / "__init__.py", FILES)

    def test_characters_and_sizes(self):
        for path in FILES:
            text = path.read_bytes().decode("ascii")
            lines = text.split("\n")
            self.assertLessEqual(len(lines), 399, path)
            self.assertLessEqual(max(len(line) for line in lines), 120, path)
            self.assertEqual({sign for sign in text if sign != "\n" and not " " <= sign <= "~"}, set(), path)
            for node in ast.walk(ast.parse(text)):
                if isinstance(node, ast.FunctionDef):
                    self.assertLessEqual(node.end_lineno - node.lineno + 1, 40, node.name)

    def test_imports_come_from_the_package_by_full_names(self):
        for path in FILES:
            for node in ast.walk(ast.parse(path.read_text())):
                self.assertNotIsInstance(node, ast.Import, path)
                if isinstance(node, ast.ImportFrom):
                    self.assertEqual(node.module.split(".")[0], "onerest", path)

    def test_names_are_imported_from_the_files_that_define_them_and_not_in_a_ring(self):
        defined, asked = {}, {}
        for path in FILES:
            body = ast.parse(path.read_text()).body
            defined[path.stem] = {node.name for node in body if isinstance(node, (ast.FunctionDef, ast.ClassDef))}
            defined[path.stem] |= {node.targets[0].id for node in body if isinstance(node, ast.Assign)}
            asked[path.stem] = [
                (node.module.split(".")[1], alias.name)
                for node in body if isinstance(node, ast.ImportFrom) for alias in node.names
            ]
        above = {file: {other for other, _ in names} for file, names in asked.items()}
        for file, names in asked.items():
            for other, name in names:
                self.assertIn(name, defined[other], file)
        while any(above.values()):
            done = {file for file in above if not above[file]}
            above = {file: others - done for file, others in above.items() if file not in done}
            self.assertTrue(done, above)

    def test_module_level_holds_no_code(self):
        for path in FILES:
            docstring, *rest = ast.parse(path.read_text()).body
            self.assertIsInstance(docstring.value, ast.Constant, path)
            for node in rest:
                self.assertIsInstance(node, (ast.ImportFrom, ast.FunctionDef, ast.ClassDef, ast.Assign), path)
                if isinstance(node, ast.Assign):
                    self.check_plain_value(node.value, {other.name for other in rest if is_above(other, node)})

    def check_plain_value(self, value, functions):
        """Literals only, or a dict of words and of functions that are defined above it."""
        if isinstance(value, ast.Dict) and all(isinstance(part, ast.Name) for part in value.values):
            self.assertLessEqual({part.id for part in value.values}, functions)
            value = ast.List(elts=value.keys)
        ast.literal_eval(value)

    def test_no_name_has_two_meanings(self):
        for path in FILES:
            tree = ast.parse(path.read_text())
            taken = {alias.name for node in tree.body if isinstance(node, ast.ImportFrom) for alias in node.names}
            taken |= {node.name for node in tree.body if isinstance(node, ast.ClassDef)}
            locals_bound = {
                name for node in functions_in(tree) for name in names_bound(ast.Module(body=[node], type_ignores=[]))
            }
            self.assertEqual(locals_bound & taken, set(), path)
            self.assertEqual(set(names_bound(tree)) & set(dir(builtins)), set(), path)

    def test_plain_statements_builtins_and_methods_only(self):
        for path in FILES:
            tree = ast.parse(path.read_text())
            for node in ast.walk(tree):
                self.assertNotIsInstance(node, STATEMENTS, path)
                if isinstance(node, ast.Name) and node.id in dir(builtins):
                    self.assertIn(node.id, BUILTINS, path)
                if isinstance(node, ast.Call) and isinstance(node.func, ast.Attribute):
                    self.assertIn(node.func.attr, METHODS | OWN_METHODS, path)


if __name__ == "__main__":
    unittest.main()

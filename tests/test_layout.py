"""The interface stands where the document lists it, and the files keep to their sizes."""

import ast
import importlib
import inspect
import pathlib
import unittest

import basketrope

FOLDER = pathlib.Path(basketrope.__file__).parent

# What a file of the package may import from, besides the package itself.
LIBRARY = ("heapq", "math", "itertools", "collections")

# The functions that have landed, by module, with the names of their parameters.
FUNCTIONS = {
    "towers": {
        "is_tower": ["value"], "tower_error": ["value"],
        "is_group": ["tower", "value"], "weight_of": ["tower", "group"],
    },
    "moves": {
        "is_move": ["tower", "group", "value"], "after_move": ["tower", "group", "move"],
        "move_between": ["tower", "start", "goal"],
        "is_plan": ["tower", "start", "value"], "groups_of": ["tower", "start", "plan"],
    },
    "plans": {
        "sums_of": ["tower"], "certificate": ["tower", "start", "goal"],
        "certificate_holds": ["tower", "start", "goal", "value"],
        "fewest_moves": ["tower", "start", "goal"], "find_plan": ["tower", "start", "goal"],
    },
    "reach": {
        "stuck_person": ["tower"], "reach_weight": ["tower"], "can_reach": ["tower", "group"],
        "never_down": ["tower"], "least_excess": ["tower"],
    },
    "texts": {"tower_text": ["tower"], "parse_tower": ["value"]},
    "counting": {"count_plans": ["tower", "start", "goal"], "each_plan": ["tower", "start", "goal"]},
    "stones": {"stones_for": ["tower"], "fewest_stones": ["tower"], "stones_hold": ["tower", "value"]},
}

# The classes that have landed, by module: the parameters, the methods with theirs, and the attributes.
CLASSES = {
    "values": {
        "Load": (
            ["weights"],
            {
                "__getitem__": None, "__add__": None, "__sub__": None, "__contains__": None,
                "__len__": None, "__str__": None, "__eq__": None,
            },
            ["weights", "total"],
        ),
        "Basket": (["excess"], {"__call__": ["self", "one", "other"]}, ["excess", "rides"]),
    },
    "promises": {"Promise": (["least"], {"beyond": ["self", "number"]}, ["least"])},
    "hoists": {
        "Hoist": (
            ["tower"],
            {
                "come": ["self", "weight"], "leave": ["self", "person"], "weigh": ["self", "person", "weight"],
                "loosen": ["self", "excess"], "undo": ["self"], "attempt": ["self", "edits", "* watch"],
                "state": ["self", "* version"], "certificate": ["self", "goal", "* version"],
                "walk": ["self", "* version"], "edits": ["self"], "read": None,
                "__len__": None, "__str__": None, "__eq__": None,
            },
            ["tower", "reach", "is_free", "MOST_EDITS"],
        ),
        "PromisedHoist": (["tower", "least"], {}, ["tower", "reach", "is_free", "MOST_EDITS", "least"]),
    },
    "shells": {"Shell": (["hoist"], {"execute": ["self", "line"]}, [])},
}

# What an object of each class can be made of.
MADE_OF = {
    "Load": ((3, 9),), "Basket": (2,), "Promise": (3,),
    "Hoist": ((1, ()),), "PromisedHoist": ((1, ()), 0), "Shell": (None,),
}


def parameters_of(function):
    """Return the names of the parameters, with a star before those that are passed by keyword."""
    found = inspect.signature(function).parameters.values()
    return [f"* {one.name}" if one.kind is one.KEYWORD_ONLY else one.name for one in found]


def files():
    """Return the files of the package."""
    return sorted(FOLDER.glob("*.py"))


class Interface(unittest.TestCase):
    def test_functions_stand_in_their_modules(self):
        for module, functions in FUNCTIONS.items():
            full_name = f"basketrope.{module}"
            for name, parameters in functions.items():
                function = getattr(importlib.import_module(full_name), name)
                self.assertEqual(function.__module__, full_name)
                self.assertEqual(parameters_of(function), parameters)

    def test_classes_stand_in_their_modules(self):
        for module, classes in CLASSES.items():
            full_name = f"basketrope.{module}"
            for name, (parameters, methods, _) in classes.items():
                shape = getattr(importlib.import_module(full_name), name)
                self.assertEqual(shape.__module__, full_name)
                self.assertEqual(parameters_of(shape), parameters)
                for method, expected in methods.items():
                    self.assertIn(method, vars(shape), name)
                    if expected is not None:
                        self.assertEqual(parameters_of(vars(shape)[method]), expected)

    def test_read_is_a_class_method(self):
        shape = importlib.import_module("basketrope.hoists").Hoist
        self.assertIsInstance(vars(shape)["read"], classmethod)
        self.assertEqual(parameters_of(shape.read), ["text"])

    def test_attributes_are_there_when_an_object_is_created(self):
        for module, classes in CLASSES.items():
            for name, (_, _, attributes) in classes.items():
                thing = getattr(importlib.import_module(f"basketrope.{module}"), name)(*MADE_OF[name])
                for attribute in attributes:
                    self.assertTrue(hasattr(thing, attribute), (name, attribute))


class Files(unittest.TestCase):
    def test_only_python_files(self):
        names = {path.name for path in FOLDER.iterdir()} - {"__pycache__"}
        self.assertEqual(names, {path.name for path in files()})
        self.assertIn("__init__.py", names)

    def test_sizes(self):
        for path in files():
            lines = path.read_text(encoding="ascii").splitlines()
            self.assertLessEqual(len(lines), 399, path.name)
            for line in lines:
                self.assertLessEqual(len(line), 120, path.name)
                self.assertNotIn("\t", line, path.name)

    def test_sizes_of_functions(self):
        for path in files():
            for node in ast.walk(ast.parse(path.read_text(encoding="ascii"))):
                if isinstance(node, ast.FunctionDef):
                    self.assertLessEqual(node.end_lineno - node.lineno + 1, 40, (path.name, node.name))

    def test_imports(self):
        for path in files():
            for node in ast.walk(ast.parse(path.read_text(encoding="ascii"))):
                self.assertNotIsInstance(node, ast.Import, path.name)
                if isinstance(node, ast.ImportFrom):
                    self.assertEqual(node.level, 0, path.name)
                    own = node.module.startswith("basketrope.")
                    self.assertTrue(own or node.module in LIBRARY, (path.name, node.module))


if __name__ == "__main__":
    unittest.main()

"""The names and arguments of the interface, each in its file."""

import importlib
import inspect
import unittest

FUNCTIONS = {
    "pressing": {
        "is_keys": ["value"],
        "pressed": ["text", "cursors", "keys"],
        "press_steps": ["text", "cursors", "keys"],
        "layout_of": ["text", "cursors"],
    },
    "layouts": {
        "layout_after": ["layout", "runs"],
        "merge_key": ["layout", "runs", "index"],
        "cursors_after": ["layout", "runs"],
        "runs_of": ["keys"],
    },
    "reach": {
        "reach_of": ["keys"],
        "depth_of": ["keys"],
        "net_of": ["keys"],
        "far_effect": ["keys"],
        "same_far": ["keys", "other"],
    },
    "ends": {
        "same_at_one": ["keys", "other"],
        "first_difference": ["keys", "other"],
    },
    "forms": {
        "form_of": ["keys"],
        "is_form": ["value"],
        "joined": ["form", "more"],
        "keys_of": ["form"],
        "count_keys": ["form"],
        "same_everywhere": ["keys", "other"],
        "parting_layout": ["keys", "other"],
    },
    "pieces": {
        "pieces_after": ["layout", "form"],
        "layout_by_form": ["layout", "form"],
        "rounds_layout": ["layout", "form", "rounds"],
        "gone_after": ["layout", "form", "index"],
    },
    "fewest": {
        "is_effect": ["value"],
        "fewest_keys": ["effect"],
        "shortest_keys": ["effect"],
        "is_shortest": ["keys"],
    },
    "texts": {
        "format_state": ["text", "cursors"],
        "format_runs": ["runs"],
        "parse_state": ["text"],
        "parse_runs": ["text"],
    },
}

# For each class the arguments of its constructor, its methods with theirs, and its properties.
CLASSES = {
    "keylists": {
        "Keys": (["text"], {
            "__add__": 1, "__mul__": 1, "__eq__": 1, "__len__": [], "__contains__": 1, "__getitem__": 1,
            "__iter__": [], "__neg__": [], "__call__": ["text", "cursors"], "begins": ["other"],
        }, ["written"]),
    },
    "editors": {
        "Editor": (["text", "cursors"], {
            "press": ["keys"], "press_all": ["lists"], "undo": [], "try_keys": ["keys"], "told": [], "__len__": [],
        }, ["text_now", "cursors_now", "layout_now"]),
    },
    "kinds": {
        "OvertypeEditor": (["text", "cursors"], {"told": []}, []),
        "ShyEditor": (["text", "cursors"], {"told": []}, []),
        "ShyOvertypeEditor": (["text", "cursors"], {}, []),
    },
}


class Interface(unittest.TestCase):
    def test_functions_stand_in_their_files_with_their_arguments(self):
        for name, functions in FUNCTIONS.items():
            module = importlib.import_module("cursorkeys." + name)
            for word, parameters in functions.items():
                with self.subTest(module=name, function=word):
                    function = getattr(module, word)
                    self.assertEqual(function.__module__, module.__name__)
                    self.assertEqual(list(inspect.signature(function).parameters), parameters)

    def check_class(self, kind, parameters, methods, properties):
        self.assertEqual(list(inspect.signature(kind).parameters), parameters)
        for name, expected in methods.items():
            # Each one stands in the class itself; the names of an operator's arguments are free.
            names = list(inspect.signature(vars(kind)[name]).parameters)[1:]
            self.assertEqual(len(names) if isinstance(expected, int) else names, expected, name)
        for name in properties:
            self.assertIsInstance(vars(kind)[name], property)

    def test_classes_stand_in_their_files_with_their_methods(self):
        for name, classes in CLASSES.items():
            module = importlib.import_module("cursorkeys." + name)
            for word, members in classes.items():
                with self.subTest(module=name, kind=word):
                    self.assertEqual(getattr(module, word).__module__, module.__name__)
                    self.check_class(getattr(module, word), *members)

    def test_members_of_editor(self):
        editor = importlib.import_module("cursorkeys.editors").Editor
        self.assertIsInstance(vars(editor)["read"], classmethod)
        self.assertEqual(list(inspect.signature(editor.read).parameters), ["text"])
        self.assertIsInstance(vars(editor)["is_valid"], staticmethod)
        self.assertEqual(list(inspect.signature(editor.is_valid).parameters), ["text", "cursors"])
        self.assertEqual(vars(editor)["MOVES"], ("<", ">"))
        lists = inspect.signature(editor.press_all).parameters["lists"]
        self.assertEqual(lists.kind, inspect.Parameter.VAR_POSITIONAL)

    def test_default_values_of_editors(self):
        for name in ("editors", "kinds"):
            module = importlib.import_module("cursorkeys." + name)
            for word in CLASSES[name]:
                parameters = inspect.signature(getattr(module, word)).parameters
                self.assertEqual([parameters[k].default for k in parameters], ["", (0,)])

    def test_joined_takes_any_number_of_forms(self):
        module = importlib.import_module("cursorkeys.forms")
        more = inspect.signature(module.joined).parameters["more"]
        self.assertEqual(more.kind, inspect.Parameter.VAR_POSITIONAL)

    def test_press_steps_is_a_generator(self):
        module = importlib.import_module("cursorkeys.pressing")
        self.assertTrue(inspect.isgenerator(module.press_steps("", (0,), "")))


if __name__ == "__main__":
    unittest.main()

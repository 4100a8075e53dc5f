"""The names and arguments of the interface, each in its file."""

import importlib
import inspect
import unittest

FUNCTIONS = {
    "pressing": {
        "is_keys": ["value"],
        "pressed": ["text", "cursors", "keys"],
        "press_steps": ["text", "cursors", "keys"],
        "layout_of": ["text", "cursors"],
    },
    "layouts": {
        "layout_after": ["layout", "runs"],
        "merge_key": ["layout", "runs", "index"],
        "cursors_after": ["layout", "runs"],
        "runs_of": ["keys"],
    },
    "reach": {
        "reach_of": ["keys"],
        "depth_of": ["keys"],
        "net_of": ["keys"],
        "far_effect": ["keys"],
        "same_far": ["keys", "other"],
    },
    "ends": {
        "same_at_one": ["keys", "other"],
        "first_difference": ["keys", "other"],
    },
    "forms": {
        "form_of": ["keys"],
        "is_form": ["value"],
        "joined": ["form", "more"],
        "keys_of": ["form"],
        "count_keys": ["form"],
        "same_everywhere": ["keys", "other"],
        "parting_layout": ["keys", "other"],
    },
    "pieces": {
        "pieces_after": ["layout", "form"],
        "layout_by_form": ["layout", "form"],
        "rounds_layout": ["layout", "form", "rounds"],
        "gone_after": ["layout", "form", "index"],
    },
    "fewest": {
        "is_effect": ["value"],
        "fewest_keys": ["effect"],
        "shortest_keys": ["effect"],
        "is_shortest": ["keys"],
    },
}


class Interface(unittest.TestCase):
    def test_functions_stand_in_their_files_with_their_arguments(self):
        for name, functions in FUNCTIONS.items():
            module = importlib.import_module("cursorkeys." + name)
            for word, parameters in functions.items():
                with self.subTest(module=name, function=word):
                    function = getattr(module, word)
                    self.assertEqual(function.__module__, module.__name__)
                    self.assertEqual(list(inspect.signature(function).parameters), parameters)

    def test_joined_takes_any_number_of_forms(self):
        module = importlib.import_module("cursorkeys.forms")
        more = inspect.signature(module.joined).parameters["more"]
        self.assertEqual(more.kind, inspect.Parameter.VAR_POSITIONAL)

    def test_press_steps_is_a_generator(self):
        module = importlib.import_module("cursorkeys.pressing")
        self.assertTrue(inspect.isgenerator(module.press_steps("", (0,), "")))


if __name__ == "__main__":
    unittest.main()

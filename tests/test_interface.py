"""The names and arguments of the interface, each in its file."""

import importlib
import inspect
import unittest

FUNCTIONS = {
    "pressing": {
        "is_keys": ["value"],
        "pressed": ["text", "cursors", "keys"],
        "press_steps": ["text", "cursors", "keys"],
        "layout_of": ["text", "cursors"],
    },
    "layouts": {
        "layout_after": ["layout", "runs"],
        "merge_key": ["layout", "runs", "index"],
        "cursors_after": ["layout", "runs"],
        "runs_of": ["keys"],
    },
    "reach": {
        "reach_of": ["keys"],
        "depth_of": ["keys"],
        "net_of": ["keys"],
        "far_effect": ["keys"],
        "same_far": ["keys", "other"],
    },
}


class Interface(unittest.TestCase):
    def test_functions_stand_in_their_files_with_their_arguments(self):
        for name, functions in FUNCTIONS.items():
            module = importlib.import_module("cursorkeys." + name)
            for word, parameters in functions.items():
                with self.subTest(module=name, function=word):
                    function = getattr(module, word)
                    self.assertEqual(function.__module__, module.__name__)
                    self.assertEqual(list(inspect.signature(function).parameters), parameters)

    def test_press_steps_is_a_generator(self):
        module = importlib.import_module("cursorkeys.pressing")
        self.assertTrue(inspect.isgenerator(module.press_steps("", (0,), "")))


if __name__ == "__main__":
    unittest.main()

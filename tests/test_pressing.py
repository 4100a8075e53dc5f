import unittest
from random import Random

from cursorkeys.errors import InvalidCursors, InvalidKeys, InvalidText
from cursorkeys.pressing import is_keys, layout_of, press_steps, pressed
from plain import NOT_INTEGERS, NOT_STRINGS, NOT_TUPLES, all_cursors, all_keys
from plain import assert_error, plain_press, some_keys, some_state

# The first steps of press_steps, as a function that can be called like the others.
STATE_FUNCTIONS = (
    lambda text, cursors: pressed(text, cursors, "a"),
    lambda text, cursors: next(press_steps(text, cursors, "a")),
    layout_of,
)
KEY_FUNCTIONS = (
    lambda keys: pressed("ab", (0, 1), keys),
    lambda keys: next(press_steps("ab", (0, 1), keys)),
)


class IsKeys(unittest.TestCase):
    def test_key_lists(self):
        for keys in ("", "a", "z", "-", "#", "<", ">", "abcxyz-#<>", "a" * 1000):
            with self.subTest(keys):
                self.assertIs(is_keys(keys), True)

    def test_each_ascii_character(self):
        for code in range(256):
            sign = chr(code)
            with self.subTest(code=code):
                self.assertIs(is_keys(sign), sign in "abcdefghijklmnopqrstuvwxyz-#<>")

    def test_one_wrong_character_at_any_place(self):
        for wrong in "A1 |\n_\u00e9\u0430":
            for place in range(6):
                keys = list("a-#<>b")
                keys[place] = wrong
                with self.subTest(keys):
                    self.assertIs(is_keys("".join(keys)), False)

    def test_other_values(self):
        for value in NOT_STRINGS + (("a", "b"), ["-", "#"], object(), str):
            with self.subTest(value):
                self.assertIs(is_keys(value), False)

    def test_by_name(self):
        self.assertIs(is_keys(value="a"), True)


class Pressed(unittest.TestCase):
    def test_all_small_states_and_key_lists(self):
        for length in range(5):
            text = "ABCD"[:length]
            for cursors in all_cursors(length):
                for keys in all_keys(3):
                    expected = plain_press(text, cursors, keys)
                    if pressed(text, cursors, keys) != expected:
                        self.fail((text, cursors, keys, expected))

    def test_long_key_lists(self):
        random = Random(1)
        for _ in range(400):
            text, cursors = some_state(random, 30)
            keys = some_keys(random, 60)
            with self.subTest(text=text, cursors=cursors, keys=keys):
                self.assertEqual(pressed(text, cursors, keys), plain_press(text, cursors, keys))

    def test_the_largest_arguments(self):
        text = "abcdefghijKLMNO" * 20
        cursors = tuple(range(0, 300, 15))
        for keys in ("z" * 60, "-" * 60, "#" * 60, "<" * 60, ">" * 60, "xy-#<>" * 10):
            with self.subTest(keys):
                self.assertEqual(pressed(text, cursors, keys), plain_press(text, cursors, keys))

    def test_one_key(self):
        for text, cursors, key, expected in (
            ("abcd", (0, 2, 4), "x", ("xabxcdx", (1, 4, 7))),
            ("abcd", (0, 2, 4), "-", ("ac", (0, 1, 2))),
            ("abcd", (0, 2, 4), "#", ("bd", (0, 1, 2))),
            ("abcd", (0, 2, 4), "<", ("abcd", (0, 1, 3))),
            ("abcd", (0, 2, 4), ">", ("abcd", (1, 3, 4))),
            ("aBcD", (1,), "-", ("BcD", (0,))),
        ):
            with self.subTest(text=text, cursors=cursors, key=key):
                self.assertEqual(pressed(text, cursors, key), expected)

    def test_the_empty_text(self):
        for keys, expected in (
            ("", ("", (0,))), ("-", ("", (0,))), ("#", ("", (0,))), ("<", ("", (0,))),
            (">", ("", (0,))), ("x", ("x", (1,))), ("<x>-", ("", (0,))), ("ab<-", ("b", (0,))),
        ):
            with self.subTest(keys):
                self.assertEqual(pressed("", (0,), keys), expected)

    def test_the_empty_key_list(self):
        self.assertEqual(pressed("aB", (0, 2), ""), ("aB", (0, 2)))

    def test_neighbouring_cursors_become_one(self):
        for text, cursors, keys, expected in (
            ("abc", (1, 2), "-", ("c", (0,))),
            ("abc", (1, 2), "#", ("a", (1,))),
            ("abc", (0, 1, 2, 3), "-", ("", (0,))),
            ("abc", (0, 1, 2, 3), "#", ("", (0,))),
            ("abc", (0, 1), "<", ("abc", (0,))),
            ("abc", (2, 3), ">", ("abc", (3,))),
            ("abc", (0, 1, 2), "<", ("abc", (0, 1))),
            ("abc", (1, 2, 3), ">", ("abc", (2, 3))),
            ("abc", (1, 2), "<", ("abc", (0, 1))),
            ("abc", (1, 2), "-x", ("xc", (1,))),
        ):
            with self.subTest(text=text, cursors=cursors, keys=keys):
                self.assertEqual(pressed(text, cursors, keys), expected)

    def test_cursors_that_are_one_stay_one(self):
        self.assertEqual(pressed("abcd", (0, 1, 4), "<>x"), ("axbcdx", (2, 6)))

    def test_what_was_returned_may_be_passed_back(self):
        text, cursors = pressed("ab", (0, 1, 2), "xyz" * 60)
        self.assertEqual(pressed(text, cursors, "-"), plain_press(text, cursors, "-"))

    def test_by_name(self):
        self.assertEqual(pressed(keys="x", cursors=(0,), text="a"), ("xa", (1,)))


class PressSteps(unittest.TestCase):
    def test_steps_are_those_of_the_beginnings(self):
        random = Random(2)
        for _ in range(100):
            text, cursors = some_state(random, 12)
            keys = some_keys(random, 20)
            expected = [plain_press(text, cursors, keys[:k]) for k in range(len(keys) + 1)]
            with self.subTest(text=text, cursors=cursors, keys=keys):
                self.assertEqual(list(press_steps(text, cursors, keys)), expected)

    def test_the_empty_key_list(self):
        self.assertEqual(list(press_steps("aB", (0, 2), "")), [("aB", (0, 2))])

    def test_errors_come_with_the_first_value(self):
        for args, error in (
            ((1, (0,), ""), InvalidText),
            (("a", (2,), ""), InvalidCursors),
            (("a", (0,), "A"), InvalidKeys),
        ):
            with self.subTest(args):
                steps = press_steps(*args)
                assert_error(self, error, next, steps)

    def test_a_wrong_last_key_is_found_first(self):
        steps = press_steps("a", (0,), "xx!")
        assert_error(self, InvalidKeys, next, steps)

    def test_by_name(self):
        steps = press_steps(keys="x", cursors=(0,), text="a")
        self.assertEqual(list(steps), [("a", (0,)), ("xa", (1,))])


class LayoutOf(unittest.TestCase):
    def test_layouts(self):
        for text, cursors, expected in (
            ("", (0,), (0, (), 0)),
            ("abc", (0,), (0, (), 3)),
            ("abc", (3,), (3, (), 0)),
            ("abc", (0, 3), (0, (3,), 0)),
            ("abc", (0, 1, 2, 3), (0, (1, 1, 1), 0)),
            ("aBcDeF", (1, 4), (1, (3,), 2)),
        ):
            with self.subTest(text=text, cursors=cursors):
                self.assertEqual(layout_of(text, cursors), expected)

    def test_the_numbers_say_where_the_cursors_are(self):
        for cursors in all_cursors(5):
            before, gaps, behind = layout_of("abCDe", cursors)
            places = [before]
            for gap in gaps:
                places.append(places[-1] + gap)
            self.assertEqual(tuple(places), cursors)
            self.assertEqual(places[-1] + behind, 5)

    def test_by_name(self):
        self.assertEqual(layout_of(cursors=(1,), text="ab"), (1, (), 1))


class Arguments(unittest.TestCase):
    def test_arguments_stay_unchanged(self):
        text, cursors, keys = "abCD", (0, 2, 3), "x-#<>"
        pressed(text, cursors, keys)
        list(press_steps(text, cursors, keys))
        layout_of(text, cursors)
        self.assertEqual((text, cursors, keys), ("abCD", (0, 2, 3), "x-#<>"))

    def test_wrong_arguments_stay_unchanged(self):
        cursors = [0, 2]
        keys = ["x", "-"]
        assert_error(self, InvalidCursors, pressed, "abc", cursors, "x")
        assert_error(self, InvalidKeys, pressed, "abc", (0, 2), keys)
        self.assertIs(is_keys(keys), False)
        self.assertEqual((cursors, keys), ([0, 2], ["x", "-"]))

    def test_steps_do_not_disturb_each_other(self):
        first = press_steps("ab", (0, 1), "x#")
        second = press_steps("ab", (0, 1), "x#")
        next(first)
        next(first)
        self.assertEqual(list(second), [("ab", (0, 1)), ("xaxb", (1, 3)), ("xx", (1, 2))])
        self.assertEqual(list(first), [("xx", (1, 2))])


class WrongArguments(unittest.TestCase):
    def test_texts_of_other_kinds(self):
        for function in STATE_FUNCTIONS:
            for value in NOT_STRINGS:
                assert_error(self, InvalidText, function, value, (0,))

    def test_one_wrong_character_in_the_text(self):
        for function in STATE_FUNCTIONS:
            for wrong in "-#<>1 |\n_@[`{\u00e9\u0430":
                for place in range(4):
                    text = "abYZ"[:place] + wrong + "abYZ"[place + 1:]
                    assert_error(self, InvalidText, function, text, (0,))

    def test_cursors_of_other_kinds(self):
        for function in STATE_FUNCTIONS:
            for value in NOT_TUPLES:
                assert_error(self, InvalidCursors, function, "ab", value)
            assert_error(self, InvalidCursors, function, "ab", ())

    def test_one_wrong_cursor_at_any_place(self):
        for function in STATE_FUNCTIONS:
            for wrong in NOT_INTEGERS + (-1, 6, 10 ** 40):
                for place in range(3):
                    cursors = [1, 2, 3]
                    cursors[place] = wrong
                    assert_error(self, InvalidCursors, function, "abcde", tuple(cursors))

    def test_cursors_at_the_ends_of_the_range(self):
        for function in STATE_FUNCTIONS:
            function("abc", (0, 3))
            assert_error(self, InvalidCursors, function, "abc", (0, 4))
            assert_error(self, InvalidCursors, function, "abc", (-1, 3))
            assert_error(self, InvalidCursors, function, "", (1,))

    def test_cursors_that_do_not_ascend(self):
        for function in STATE_FUNCTIONS:
            for cursors in ((1, 1), (2, 1), (0, 2, 2), (0, 3, 1), (0, 0, 1), (3, 2, 1, 0)):
                assert_error(self, InvalidCursors, function, "abc", cursors)

    def test_wrong_keys(self):
        for function in KEY_FUNCTIONS:
            for value in NOT_STRINGS + ("A", "a1", " a", "ab|", "ab\n", "\u00e9"):
                assert_error(self, InvalidKeys, function, value)

    def test_the_first_parameter_decides(self):
        for function in (pressed, lambda *args: next(press_steps(*args))):
            assert_error(self, InvalidText, function, None, None, None)
            assert_error(self, InvalidText, function, "1", (9,), "1")
            assert_error(self, InvalidText, function, "1", (0,), "1")
            assert_error(self, InvalidCursors, function, "a", (2,), "1")
            assert_error(self, InvalidCursors, function, "a", [0], None)
        assert_error(self, InvalidText, layout_of, 5, (7,))


if __name__ == "__main__":
    unittest.main()

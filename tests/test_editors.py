import copy
import unittest
from random import Random

from cursorkeys.editors import Editor
from cursorkeys.errors import InvalidCursors, InvalidKeys, InvalidState, InvalidText, NothingToUndo
from cursorkeys.keylists import Keys
from cursorkeys.pressing import layout_of, pressed
from plain import NOT_INTEGERS, NOT_STRINGS, NOT_TUPLES, Odd, all_cursors, all_keys, assert_error
from plain import odd_values, plain_press, some_keys, some_state

NOT_KEYS = NOT_STRINGS + ("A", "a1", " a", "ab|", "ab\n", "\u00e9", Keys("a"), ("a", "b"), Odd())


def state_of_editor(editor):
    """Return all that an editor tells of itself."""
    return (
        editor.text_now, editor.cursors_now, editor.layout_now, editor.told(), len(editor),
        editor.try_keys(""), editor.try_keys("x-#<>"),
    )


def shown(editor):
    return editor.text_now, editor.cursors_now


class AgainstStatesKeptOneByOne(unittest.TestCase):
    def check(self, editor, states):
        text, cursors = states[-1]
        self.assertEqual((editor.text_now, editor.cursors_now), (text, cursors))
        self.assertEqual(editor.layout_now, layout_of(text, cursors))
        self.assertEqual(editor.told(), [f"characters {len(text)}", f"cursors {len(cursors)}"])
        self.assertEqual(len(editor), len(states) - 1)

    def act(self, random, editor, states):
        """Do something with the editor, and the same with the list of its states."""
        deed = random.randrange(5)
        lists = [some_keys(random, 6) for _ in range(random.randrange(4) if deed == 1 else 1)]
        if deed == 4 and len(states) == 1:
            assert_error(self, NothingToUndo, editor.undo)
        elif deed == 4:
            self.assertIsNone(editor.undo())
            states.pop()
        else:
            after = plain_press(*states[-1], "".join(lists))
            if deed == 3:
                self.assertEqual(editor.try_keys(lists[0]), after)
                return
            many = editor.press(lists[0]) if deed == 0 else editor.press_all(*lists)
            self.assertEqual(many, len(after[1]))
            states.append(after)

    def test_some_calls_and_undo_through_all(self):
        random = Random(80)
        for _ in range(100):
            text, cursors = some_state(random, 12)
            editor = Editor(text, cursors)
            states = [(text, cursors)]
            for _ in range(40):
                self.act(random, editor, states)
                self.check(editor, states)
            while len(states) > 1:
                editor.undo()
                states.pop()
                self.check(editor, states)
            assert_error(self, NothingToUndo, editor.undo)
            self.check(editor, states)

    def test_all_small_texts_and_lists(self):
        for length in range(4):
            for cursors in all_cursors(length):
                editor = Editor("aBc"[:length], cursors)
                for keys in all_keys(3):
                    expected = plain_press("aBc"[:length], cursors, keys)
                    self.assertEqual(editor.try_keys(keys), expected)
                    self.assertEqual(editor.press(keys), len(expected[1]))
                    self.assertEqual(shown(editor), expected)
                    editor.undo()
                    self.assertEqual(shown(editor), ("aBc"[:length], cursors))

    def test_a_long_text_with_many_cursors(self):
        text, cursors = "abC" * 100, tuple(range(0, 300, 15))
        editor = Editor(text, cursors)
        states = [(text, cursors)]
        for k in range(60):
            keys = ("xy-#<>" * 10)[k:] + "<-" * (k % 7)
            states.append(plain_press(*states[-1], keys))
            self.assertEqual(editor.press(keys), len(states[-1][1]))
            self.check(editor, states)


class CreatedEditors(unittest.TestCase):
    def test_the_default_values(self):
        self.assertEqual(shown(Editor()), ("", (0,)))
        self.assertEqual(shown(Editor("ab")), ("ab", (0,)))
        self.assertEqual(shown(Editor(text="ab")), ("ab", (0,)))
        self.assertEqual(shown(Editor(cursors=(0,))), ("", (0,)))
        self.assertEqual(shown(Editor(cursors=(1, 2), text="ab")), ("ab", (1, 2)))
        self.assertEqual(len(Editor("ab")), 0)

    def test_wrong_texts_and_cursors(self):
        for value in NOT_STRINGS + ("a1", "a|b", "-", " ", "\u00e9", Odd(), Keys("a")):
            assert_error(self, InvalidText, Editor, value)
            assert_error(self, InvalidText, Editor, value, (0,))
            assert_error(self, InvalidText, Editor, value, None)
        for value in NOT_TUPLES + ((), (-1,), (4,), (1, 1), (2, 1), (0, 1, 1), (10 ** 40,), Odd()):
            assert_error(self, InvalidCursors, Editor, "abc", value)
        for wrong in NOT_INTEGERS:
            for place in range(3):
                cursors = (0, 1, 2)
                assert_error(self, InvalidCursors, Editor, "abc", cursors[:place] + (wrong,) + cursors[place + 1:])
        assert_error(self, InvalidCursors, Editor, cursors=(1,))

    def test_the_class_value(self):
        self.assertEqual(Editor.MOVES, ("<", ">"))
        self.assertEqual(Editor("a").MOVES, ("<", ">"))

    def test_properties_cannot_be_set(self):
        editor = Editor("ab", (1,))
        for name in ("text_now", "cursors_now", "layout_now"):
            with self.assertRaises(AttributeError):
                setattr(editor, name, None)
        self.assertEqual(shown(editor), ("ab", (1,)))


class Calls(unittest.TestCase):
    def test_calls_without_keys_or_lists_count(self):
        editor = Editor("abc", (1, 3))
        self.assertEqual([editor.press(""), editor.press_all(), editor.press_all(""), editor.press_all("", "")], [2] * 4)
        self.assertEqual(len(editor), 4)
        self.assertEqual(shown(editor), ("abc", (1, 3)))
        editor.press("x")
        editor.press_all()
        editor.undo()
        self.assertEqual(shown(editor), ("axbcx", (2, 5)))
        editor.undo()
        self.assertEqual((shown(editor), len(editor)), (("abc", (1, 3)), 4))
        for _ in range(4):
            editor.undo()
        assert_error(self, NothingToUndo, editor.undo)

    def test_one_call_of_press_all_is_taken_back_at_once(self):
        editor = Editor("abc", (1, 3))
        self.assertEqual(editor.press_all("x", "-", "<<"), 2)
        self.assertEqual((shown(editor), len(editor)), (("abc", (0, 1)), 1))
        self.assertEqual(editor.press_all("<", "<x"), 1)
        self.assertEqual(len(editor), 2)
        editor.undo()
        editor.undo()
        self.assertEqual((shown(editor), len(editor)), (("abc", (1, 3)), 0))

    def test_nothing_to_undo(self):
        editor = Editor()
        assert_error(self, NothingToUndo, editor.undo)
        editor.try_keys("a")
        assert_error(self, NothingToUndo, editor.undo)
        editor.press("a")
        self.assertIsNone(editor.undo())
        assert_error(self, NothingToUndo, editor.undo)
        self.assertEqual(shown(editor), ("", (0,)))

    def test_pressing_behind_an_undo(self):
        editor = Editor()
        editor.press("a")
        editor.press("b")
        editor.undo()
        editor.press("c")
        self.assertEqual((editor.text_now, len(editor)), ("ac", 2))
        editor.undo()
        self.assertEqual(editor.text_now, "a")

    def test_60_calls(self):
        editor = Editor("abcdefgh", (2, 5))
        random = Random(81)
        states = [shown(editor)]
        for _ in range(60):
            editor.press_all(*[some_keys(random, 3) for _ in range(3)])
            states.append(shown(editor))
        self.assertEqual(len(editor), 60)
        for state in states[-2::-1]:
            editor.undo()
            self.assertEqual(shown(editor), state)
        self.assertEqual(len(editor), 0)

    def test_20_lists_of_60_keys(self):
        random = Random(82)
        lists = [some_keys(random, 60) for _ in range(20)]
        editor = Editor("abcd" * 30, (3, 50, 110))
        expected = plain_press("abcd" * 30, (3, 50, 110), "".join(lists))
        self.assertEqual(editor.press_all(*lists), len(expected[1]))
        self.assertEqual(shown(editor), expected)

    def test_try_keys_against_press_afterwards(self):
        random = Random(83)
        for _ in range(200):
            editor = Editor(*some_state(random, 12))
            editor.press(some_keys(random, 5))
            keys = some_keys(random, 12)
            before = state_of_editor(editor)
            tried = editor.try_keys(keys)
            self.assertEqual(state_of_editor(editor), before)
            many = editor.press(keys)
            self.assertEqual((shown(editor), many), (tried, len(tried[1])))

    def test_by_name(self):
        editor = Editor("abc", (1, 3))
        self.assertEqual(editor.press(keys="-x"), 2)
        self.assertEqual(editor.try_keys(keys=">>"), ("xbx", (3,)))

    def test_editors_do_not_disturb_one_another(self):
        one, two, three = Editor(), Editor(), Editor("ab", (0, 2))
        one.press("a")
        one.press("b")
        two.press("x")
        self.assertEqual((len(one), len(two), len(three)), (2, 1, 0))
        two.undo()
        self.assertEqual((one.text_now, two.text_now, three.text_now), ("ab", "", "ab"))
        assert_error(self, NothingToUndo, two.undo)
        self.assertEqual(shown(Editor()), ("", (0,)))

    def test_editors_of_the_same_arguments(self):
        text, cursors = "abc", (1, 3)
        one, two = Editor(text, cursors), Editor(text, cursors)
        one.press("x")
        self.assertEqual((shown(two), text, cursors), (("abc", (1, 3)), "abc", (1, 3)))

    def test_told_is_a_new_list_each_time(self):
        editor = Editor("abc", (1, 3))
        first = editor.told()
        self.assertEqual(first, ["characters 3", "cursors 2"])
        self.assertIsNot(editor.told(), first)
        first.append("more")
        first[0] = "other"
        self.assertEqual(editor.told(), ["characters 3", "cursors 2"])
        self.assertEqual(Editor().told(), ["characters 0", "cursors 1"])

    def test_changing_lists_that_were_passed_changes_nothing(self):
        editor = Editor()
        lists = ["a", "b"]
        editor.press_all(*lists)
        lists[0] = "z"
        lists.clear()
        self.assertEqual(editor.text_now, "ab")


class Errors(unittest.TestCase):
    def test_wrong_keys_change_nothing(self):
        for value in NOT_KEYS:
            editor = Editor("abc", (1, 3))
            editor.press("x")
            before = state_of_editor(editor)
            for function in (editor.press, editor.try_keys, editor.press_all):
                assert_error(self, InvalidKeys, function, value)
                self.assertEqual(state_of_editor(editor), before)

    def test_one_wrong_character_at_any_place(self):
        editor = Editor("abc", (1, 3))
        for place in range(5):
            keys = "a-#<>"[:place] + "X" + "a-#<>"[place + 1:]
            for function in (editor.press, editor.try_keys, editor.press_all):
                assert_error(self, InvalidKeys, function, keys)
        self.assertEqual((shown(editor), len(editor)), (("abc", (1, 3)), 0))

    def test_one_invalid_list_at_any_place_of_press_all(self):
        for value in NOT_KEYS:
            for place in range(4):
                editor = Editor("abc", (1, 3))
                editor.press("y")
                before = state_of_editor(editor)
                lists = ["x", "--", "", "<x"]
                lists[place] = value
                kept = copy.copy(lists)
                assert_error(self, InvalidKeys, editor.press_all, *lists)
                self.assertEqual(state_of_editor(editor), before)
                self.assertEqual(len(lists), len(kept))
                editor.undo()
                self.assertEqual(shown(editor), ("abc", (1, 3)))


class Read(unittest.TestCase):
    def test_states(self):
        for written, state in (
            ("|", ("", (0,))), ("a|bc|", ("abc", (1, 3))), ("|abc|", ("abc", (0, 3))), ("aB|", ("aB", (2,))),
        ):
            editor = Editor.read(written)
            self.assertIs(editor.__class__, Editor)
            self.assertEqual((shown(editor), len(editor)), (state, 0))
            self.assertEqual(shown(Editor.read(text=written)), state)
            self.assertEqual(shown(Editor("x", (0, 1)).read(written)), state)

    def test_values_that_are_no_state(self):
        for value in NOT_STRINGS + odd_values() + ("", "abc", "a||b", "|1", "a| b", ("a", (1,)), Odd()):
            assert_error(self, InvalidState, Editor.read, value)

    def test_a_text_of_2000_characters(self):
        editor = Editor.read("a|" * 1000)
        self.assertEqual(editor.layout_now, (1, (1,) * 999, 0))
        self.assertEqual(editor.press("-"), 1)
        self.assertEqual(shown(editor), ("", (0,)))

    def test_a_class_below(self):
        class Own(Editor):
            """A kind of editor of the test."""

        editor = Own.read("a|b")
        self.assertIs(editor.__class__, Own)
        self.assertEqual(editor.press("x"), 1)
        self.assertEqual(editor.text_now, "axb")


class IsValid(unittest.TestCase):
    def test_against_the_constructor(self):
        for text in NOT_STRINGS + odd_values() + ("a", "abZ", "a1"):
            for cursors in NOT_TUPLES + odd_values() + ((0,), (0, 1), (1, 0), (3,), (4,), (0, 3), (True,), (0, 1.0)):
                valid = Editor.is_valid(text, cursors)
                self.assertIn(valid, (True, False))
                try:
                    Editor(text, cursors)
                except (InvalidText, InvalidCursors):
                    self.assertIs(valid, False)
                else:
                    self.assertIs(valid, True)

    def test_values(self):
        for text, cursors, expected in (
            ("", (0,), True), ("abc", (0, 1, 2, 3), True), ("aBZz", (4,), True), ("a" * 300, (0, 300), True),
            ("", (1,), False), ("", (), False), ("abc", (-1,), False), ("abc", (4,), False), ("abc", (1, 1), False),
            ("abc", (2, 1), False), ("abc", [1], False), ("abc", 1, False), ("abc", (True,), False), ("abc", None, False),
            ("a-", (0,), False), (None, (0,), False), (["a"], (0,), False), (("a",), (0,), False), (3, (0,), False),
            (b"abc", (0,), False), ((0,), "abc", False), (None, None, False), (Keys("a"), (0,), False),
        ):
            with self.subTest(text=text, cursors=cursors):
                self.assertIs(Editor.is_valid(text, cursors), expected)
                self.assertIs(Editor().is_valid(cursors=cursors, text=text), expected)

    def test_one_wrong_cursor_at_any_place(self):
        for wrong in NOT_INTEGERS + (-1, 10 ** 40):
            for place in range(3):
                cursors = (0, 1, 2)
                self.assertIs(Editor.is_valid("abc", cursors[:place] + (wrong,) + cursors[place + 1:]), False)


class AgainstPressed(unittest.TestCase):
    def test_press_is_pressed(self):
        random = Random(84)
        for _ in range(200):
            text, cursors = some_state(random, 30)
            keys = some_keys(random, 40)
            editor = Editor(text, cursors)
            self.assertEqual(editor.try_keys(keys), pressed(text, cursors, keys))
            editor.press(keys)
            self.assertEqual(shown(editor), Keys(keys)(text, cursors))


if __name__ == "__main__":
    unittest.main()

import unittest
from random import Random

from cursorkeys.editors import Editor
from cursorkeys.errors import CursorsMeet, InvalidCursors, InvalidKeys, InvalidState, InvalidText
from cursorkeys.errors import KeyListError, NothingToUndo
from cursorkeys.kinds import OvertypeEditor, ShyEditor, ShyOvertypeEditor
from cursorkeys.layouts import merge_key, runs_of
from cursorkeys.pressing import layout_of
from plain import NOT_STRINGS, NOT_TUPLES, Odd, all_cursors, all_keys, assert_error, odd_values
from plain import plain_kind_press, some_keys, some_state

# Each class with whether its letters overtype, whether its cursors are shy, and what it tells in the end.
KINDS = (
    (Editor, False, False, []),
    (OvertypeEditor, True, False, ["overtype"]),
    (ShyEditor, False, True, ["shy"]),
    (ShyOvertypeEditor, True, True, ["overtype", "shy"]),
)
SHY_KINDS = ((ShyEditor, False), (ShyOvertypeEditor, True))
OVERTYPE_KINDS = ((OvertypeEditor, False), (ShyOvertypeEditor, True))


def shown(editor):
    return editor.text_now, editor.cursors_now


def with_removals(keys):
    """Return the keys with `#` ahead of each letter."""
    return "".join(key if key in "-#<>" else "#" + key for key in keys)


def assert_meet(case, number, function, *args):
    """Assert that the call raises CursorsMeet with this number, and is as named an error as all."""
    with case.assertRaises(CursorsMeet) as caught:
        function(*args)
    case.assertIs(caught.exception.__class__, CursorsMeet)
    case.assertIsInstance(caught.exception, KeyListError)
    case.assertIsInstance(caught.exception, ValueError)
    case.assertEqual(caught.exception.key, number, args)


class AgainstStatesKeptOneByOne(unittest.TestCase):
    def check(self, editor, states, more):
        text, cursors = states[-1]
        self.assertEqual((editor.text_now, editor.cursors_now), (text, cursors))
        self.assertEqual(editor.layout_now, layout_of(text, cursors))
        self.assertEqual(editor.told(), [f"characters {len(text)}", f"cursors {len(cursors)}", *more])
        self.assertEqual(len(editor), len(states) - 1)

    def act(self, random, editor, states, overtype, shy):
        """Do something with the editor, and the same with its states; return whether cursors met."""
        deed = random.choice(("press", "press_all", "try_keys", "undo"))
        if deed == "undo":
            if len(states) > 1:
                states.pop()
                self.assertIsNone(editor.undo())
            else:
                assert_error(self, NothingToUndo, editor.undo)
            return False
        lists = [some_keys(random, 5) for _ in range(random.randrange(4) if deed == "press_all" else 1)]
        expected = plain_kind_press(*states[-1], "".join(lists), overtype, shy)
        if isinstance(expected, int):
            assert_meet(self, expected, getattr(editor, deed), *lists)
            return True
        answer = getattr(editor, deed)(*lists)
        if deed == "try_keys":
            self.assertEqual(answer, expected)
        else:
            self.assertEqual(answer, len(expected[1]))
            states.append(expected)
        return False

    def test_some_calls_and_undo_through_all(self):
        for kind, overtype, shy, more in KINDS:
            random = Random(90)
            met = 0
            for _ in range(80):
                text, cursors = some_state(random, 25)
                cursors = cursors[::random.randrange(1, 6)]
                editor = kind(text, cursors)
                states = [(text, cursors)]
                for _ in range(40):
                    met += self.act(random, editor, states, overtype, shy)
                    self.check(editor, states, more)
                while len(states) > 1:
                    editor.undo()
                    states.pop()
                    self.check(editor, states, more)
                assert_error(self, NothingToUndo, editor.undo)
            self.assertEqual(met > 100, shy)

    def check_small(self, kind, state, keys, expected):
        editor = kind(*state)
        if isinstance(expected, int):
            assert_meet(self, expected, editor.press, keys)
            assert_meet(self, expected, editor.press_all, *keys)
            assert_meet(self, expected, editor.try_keys, keys)
            self.assertEqual((shown(editor), len(editor)), (state, 0))
        else:
            self.assertEqual(editor.try_keys(keys), expected)
            self.assertEqual(editor.press_all(*keys), len(expected[1]))
            self.assertEqual((shown(editor), len(editor)), (expected, 1))

    def test_all_small_texts_and_lists(self):
        for kind, overtype, shy, _ in KINDS:
            for length in range(4):
                for cursors in all_cursors(length):
                    state = ("aBc"[:length], cursors)
                    for keys in all_keys(3):
                        expected = plain_kind_press(*state, keys, overtype, shy)
                        self.check_small(kind, state, keys, expected)


class Overtype(unittest.TestCase):
    def test_against_an_editor_with_a_removal_ahead_of_each_letter(self):
        random = Random(91)
        for _ in range(300):
            state = some_state(random, 30)
            keys = some_keys(random, 30)
            editor, plain = OvertypeEditor(*state), Editor(*state)
            self.assertEqual(editor.try_keys(keys), plain.try_keys(with_removals(keys)))
            self.assertEqual(editor.press(keys), plain.press(with_removals(keys)))
            self.assertEqual(shown(editor), shown(plain))

    def test_one_letter(self):
        for text, cursors, expected in (
            ("", (0,), ("x", (1,))), ("a", (0,), ("x", (1,))), ("a", (1,), ("ax", (2,))), ("ab", (1,), ("ax", (2,))),
            ("abcd", (0, 2), ("xbxd", (1, 3))), ("abcd", (0, 4), ("xbcdx", (1, 5))),
            # The cursors meet by the removal, and become one before the letter is typed.
            ("abc", (0, 1), ("xc", (1,))), ("abc", (1, 2, 3), ("ax", (2,))), ("ab", (0, 1, 2), ("x", (1,))),
            ("abc", (2, 3), ("abx", (3,))), ("abcdef", (0, 1, 4), ("xcdxf", (1, 4))),
        ):
            with self.subTest(text=text, cursors=cursors):
                editor = OvertypeEditor(text, cursors)
                self.assertEqual(editor.press("x"), len(expected[1]))
                self.assertEqual(shown(editor), expected)
                editor.undo()
                self.assertEqual(shown(editor), (text, cursors))

    def test_other_keys_do_as_usual(self):
        for kind, _ in OVERTYPE_KINDS:
            for keys in ("-", "#", "<", ">", "<<", ">-"):
                editor = kind("abcdef", (2, 4))
                self.assertEqual(editor.try_keys(keys), Editor("abcdef", (2, 4)).try_keys(keys))

    def test_capitals_are_overtyped(self):
        editor = OvertypeEditor("ABC", (0,))
        editor.press("xy")
        self.assertEqual(shown(editor), ("xyC", (2,)))
        self.assertEqual(OvertypeEditor("ab").try_keys("xyz"), ("xyz", (3,)))

    def test_more_letters_at_the_end(self):
        editor = OvertypeEditor("abcd", (2, 4))
        self.assertEqual(editor.try_keys("x"), ("abxdx", (3, 5)))
        self.assertEqual(editor.try_keys("xy"), ("abxyxy", (4, 6)))
        self.assertEqual(editor.try_keys("xyz"), ("abxyzyz", (5, 7)))
        self.assertEqual(OvertypeEditor("abc", (1, 3)).try_keys("xyz"), ("axyzyz", (4, 6)))


class Shy(unittest.TestCase):
    def check(self, kind, state, lists, expected):
        """Assert that cursors meet behind the key with the expected number, and nothing has changed."""
        editor = kind(*state)
        editor.press("")
        assert_meet(self, expected, editor.press_all, *lists)
        assert_meet(self, expected, editor.press, "".join(lists))
        assert_meet(self, expected, editor.try_keys, "".join(lists))
        self.assertEqual((shown(editor), len(editor)), (state, 1))
        editor.undo()
        self.assertEqual((shown(editor), len(editor)), (state, 0))

    def test_against_the_number_of_cursors_behind_every_key(self):
        random = Random(92)
        met = 0
        for kind, overtype in SHY_KINDS:
            for _ in range(300):
                text, cursors = some_state(random, 25)
                cursors = cursors[::random.randrange(1, 6)]
                keys = some_keys(random, 12)
                editor = kind(text, cursors)
                expected = plain_kind_press(text, cursors, keys, overtype, shy=True)
                if isinstance(expected, int):
                    met += 1
                    self.check(kind, (text, cursors), [keys[:3], keys[3:]], expected)
                else:
                    self.assertEqual(editor.try_keys(keys), expected)
                    self.assertEqual(editor.press(keys), len(cursors))
                    self.assertEqual(shown(editor), expected)
        self.assertGreater(met, 100)

    def test_against_the_first_gap_that_is_gone(self):
        random = Random(93)
        for _ in range(300):
            text, cursors = some_state(random, 25)
            cursors = cursors[::random.randrange(1, 6)]
            keys = some_keys(random, 12)
            runs = runs_of(keys)
            merged = [merge_key(layout_of(text, cursors), runs, at) for at in range(len(cursors) - 1)]
            numbers = [number for number in merged if number is not None]
            if numbers:
                self.check(ShyEditor, (text, cursors), [keys], min(numbers))
            else:
                self.assertEqual(ShyEditor(text, cursors).press(keys), len(cursors))

    def test_a_removal_by_a_key(self):
        for kind, _ in SHY_KINDS:
            for key in "-#":
                self.check(kind, ("abcde", (1, 2)), [key], 1)
                self.check(kind, ("abcde", (1, 3)), [key, key], 2)
                self.check(kind, ("abcde", (1, 4)), ["", key, "", key + key + key], 3)
                self.check(kind, ("abcde", (0, 3, 5)), [key + key + key], 2)

    def test_moves_at_both_ends(self):
        for kind, _ in SHY_KINDS:
            self.check(kind, ("abcde", (0, 1)), ["<"], 1)
            self.check(kind, ("abcde", (4, 5)), [">"], 1)
            self.check(kind, ("abcde", (1, 3)), ["<", "<", "<", "<"], 3)
            self.check(kind, ("abcde", (2, 3)), [">>", ">>"], 3)
            self.check(kind, ("abcde", (0, 5)), ["<<<<<<"], 5)
            self.check(kind, ("abcde", (0, 5)), [">" * 20], 5)
            self.assertEqual(kind("abcde", (1, 3)).press("<<>>"), 2)
            self.assertEqual(kind("abcde", (2, 3)).press(">><<"), 2)

    def test_the_removal_of_a_letter_that_overtypes(self):
        self.check(ShyOvertypeEditor, ("abc", (0, 1)), ["x"], 1)
        self.check(ShyOvertypeEditor, ("abc", (2, 3)), ["x"], 1)
        self.check(ShyOvertypeEditor, ("abcd", (1, 3)), ["<", "#", "x"], 3)
        self.check(ShyOvertypeEditor, ("abcd", (1, 3)), ["", ">>x"], 3)
        self.check(ShyOvertypeEditor, ("abcdef", (1, 3, 4)), ["<", ">", "x"], 3)
        self.assertEqual(ShyEditor("abc", (0, 1)).press("x"), 2)
        self.assertEqual(ShyOvertypeEditor("abcd", (0, 2)).press("xyz"), 2)
        self.assertEqual(OvertypeEditor("abc", (0, 1)).press("x"), 1)

    def test_keys_are_counted_and_not_removals(self):
        # Letters that overtype are two changes of the text, but one key each.
        self.check(ShyOvertypeEditor, ("abcdefgh", (0, 3)), ["xy", "zx", "--", "##"], 7)
        self.check(ShyOvertypeEditor, ("abcdefgh", (0, 3)), ["xyz" * 4 + "---"], 15)
        self.check(ShyEditor, ("abcdefgh", (0, 3)), ["xy", "--", "##", "#"], 7)

    def test_more_than_one_meeting_in_a_list(self):
        self.check(ShyEditor, ("abcdef", (0, 1, 3)), ["--#"], 1)
        self.check(ShyEditor, ("abcdef", (1, 3, 6)), ["x----"], 4)

    def test_a_single_cursor_never_meets(self):
        for kind, overtype in SHY_KINDS:
            for keys in all_keys(4):
                expected = plain_kind_press("abc", (1,), keys, overtype)
                self.assertEqual(kind("abc", (1,)).try_keys(keys), expected)

    def test_invalid_lists_come_first(self):
        for kind, _ in SHY_KINDS:
            for wrong in NOT_STRINGS + ("A", "x1", "|", Odd()):
                editor = kind("abc", (0, 1))
                editor.press("")
                assert_error(self, InvalidKeys, editor.press_all, "-", wrong)
                assert_error(self, InvalidKeys, editor.press_all, "-", "x", "<<", wrong, "-")
                assert_error(self, InvalidKeys, editor.press_all, wrong, "-")
                assert_error(self, InvalidKeys, editor.press, wrong)
                assert_error(self, InvalidKeys, editor.try_keys, wrong)
                self.assertEqual((shown(editor), len(editor)), (("abc", (0, 1)), 1))
            for function in (editor.press, editor.try_keys, editor.press_all):
                assert_error(self, InvalidKeys, function, "-x!")
                assert_meet(self, 1, function, "-x")

    def test_calls_that_succeed_behind_an_error(self):
        editor = ShyEditor("abcd", (1, 3))
        assert_meet(self, 2, editor.press, "--")
        self.assertEqual(editor.press("x"), 2)
        assert_meet(self, 3, editor.press_all, "#", "", "##")
        self.assertEqual(editor.press_all("#", "", "#"), 2)
        self.assertEqual((shown(editor), len(editor)), (("axx", (2, 3)), 2))
        editor.undo()
        self.assertEqual(shown(editor), ("axbcxd", (2, 5)))


class Told(unittest.TestCase):
    def test_all_kinds(self):
        for kind, _, _, more in KINDS:
            with self.subTest(kind.__name__):
                self.assertEqual(kind().told(), ["characters 0", "cursors 1", *more])
                self.assertEqual(kind("abc", (1, 3)).told(), ["characters 3", "cursors 2", *more])

    def test_a_new_list_each_time(self):
        for kind, _, _, more in KINDS:
            editor, other = kind("abc", (1, 3)), kind("abc", (1, 3))
            first = editor.told()
            self.assertIsNot(editor.told(), first)
            first.append("more")
            first[0] = "other"
            for told in (editor.told(), other.told(), kind("abc", (1, 3)).told()):
                self.assertEqual(told, ["characters 3", "cursors 2", *more])


class AllKinds(unittest.TestCase):
    def test_the_classes_above(self):
        self.assertTrue(issubclass(OvertypeEditor, Editor))
        self.assertTrue(issubclass(ShyEditor, Editor))
        self.assertTrue(issubclass(ShyOvertypeEditor, OvertypeEditor))
        self.assertTrue(issubclass(ShyOvertypeEditor, ShyEditor))
        self.assertFalse(issubclass(OvertypeEditor, ShyEditor))
        self.assertFalse(issubclass(ShyEditor, OvertypeEditor))

    def test_read_returns_an_object_of_its_class(self):
        for kind, overtype, shy, _ in KINDS:
            for written, state in (("|", ("", (0,))), ("a|bc|", ("abc", (1, 3))), ("|abc|", ("abc", (0, 3)))):
                editor = kind.read(written)
                self.assertIs(editor.__class__, kind)
                self.assertEqual((shown(editor), len(editor)), (state, 0))
                self.assertIs(editor.read(text=written).__class__, kind)
            expected = plain_kind_press("abc", (0, 1), "x", overtype, shy)
            if isinstance(expected, int):
                assert_meet(self, expected, kind.read("|a|bc").press, "x")
            else:
                self.assertEqual(kind.read("|a|bc").try_keys("x"), expected)
            for value in odd_values() + NOT_STRINGS + ("", "abc", "a||b"):
                assert_error(self, InvalidState, kind.read, value)

    def test_constructors(self):
        for kind, _, _, _ in KINDS:
            self.assertEqual(shown(kind()), ("", (0,)))
            self.assertEqual(shown(kind("ab")), ("ab", (0,)))
            self.assertEqual(shown(kind(cursors=(1, 2), text="ab")), ("ab", (1, 2)))
            for value in NOT_STRINGS + ("a1", "a|b", Odd()):
                assert_error(self, InvalidText, kind, value, None)
            for value in NOT_TUPLES + ((), (4,), (1, 1), (True,), Odd()):
                assert_error(self, InvalidCursors, kind, "abc", value)

    def test_what_they_have_of_editors(self):
        for kind, _, _, _ in KINDS:
            self.assertEqual(kind.MOVES, ("<", ">"))
            self.assertIs(kind.is_valid("ab", (0, 2)), True)
            self.assertIs(kind().is_valid("ab", (0, 3)), False)
            editor = kind("abcdef", (1, 4))
            self.assertEqual(editor.layout_now, (1, (3,), 2))
            assert_error(self, NothingToUndo, editor.undo)
            self.assertEqual([editor.press(""), editor.press_all(), editor.press(keys=">")], [2, 2, 2])
            self.assertEqual((shown(editor), len(editor)), (("abcdef", (2, 5)), 3))
            for many in (2, 1, 0):
                self.assertIsNone(editor.undo())
                self.assertEqual(len(editor), many)
            self.assertEqual(shown(editor), ("abcdef", (1, 4)))

    def test_60_calls(self):
        for kind, overtype, _, _ in KINDS:
            text, cursors = "abC" * 100, tuple(range(0, 300, 15))
            editor = kind(text, cursors)
            states = [(text, cursors)]
            for k in range(60):
                # Gaps of 15 characters that lose 12 of them, so that no cursors meet.
                keys = "xyz<>"[k % 5] + "-" * (k % 7 == 6) + "#" * (k % 15 == 14)
                states.append(plain_kind_press(*states[-1], keys, overtype))
                self.assertEqual(editor.press(keys), len(states[-1][1]))
            self.assertEqual(len(editor), 60)
            for state in states[-2::-1]:
                editor.undo()
                self.assertEqual(shown(editor), state)

    def test_kinds_do_not_disturb_one_another(self):
        editors = [kind("abcd", (0, 2)) for kind, _, _, _ in KINDS]
        editors[1].press("x")
        editors[3].press("yy")
        texts = ["abcd", "xbxd", "abcd", "yyyy"]
        self.assertEqual([editor.text_now for editor in editors], texts)
        self.assertEqual([len(editor) for editor in editors], [0, 1, 0, 1])


if __name__ == "__main__":
    unittest.main()

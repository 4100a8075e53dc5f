import unittest
from random import Random

from cursorkeys.errors import InvalidKeys
from cursorkeys.layouts import layout_after, runs_of
from cursorkeys.pressing import press_steps, pressed
from cursorkeys.reach import depth_of, far_effect, net_of, reach_of, same_far
from plain import NOT_STRINGS, all_keys, assert_error, plain_key, plain_press, some_keys

# A row of different marks; the cursor stands in the middle, far from both ends.
ROW = "ABCDEFGHIJKLMNOPQRSTUVWXYZ"
MIDDLE = 13

# The same for long key lists: plain_key takes characters of any kind.
WIDE = "".join(chr(10000 + k) for k in range(202))
WIDE_MIDDLE = 101

ONE_LIST = (reach_of, depth_of, net_of, far_effect)


def row_effect(row, middle, keys):
    """Press keys in the row; return its items and the place of the cursor."""
    text, cursors = plain_press(row, (middle,), keys)
    items = tuple(row.index(sign) - middle if sign in row else sign for sign in text)
    return items, cursors[0]


def row_reach(states, row, middle):
    """Return the greatest numbers of marks missing on each side of the cursor."""
    left = right = 0
    for text, at in states:
        left = max(left, middle - sum(sign in row[:middle] for sign in text[:at]))
        right = max(right, len(row) - middle - sum(sign in row[middle:] for sign in text[at:]))
    return left, right


def wide_states(keys):
    text, places = WIDE, [WIDE_MIDDLE]
    states = [(text, places[0])]
    for key in keys:
        text, places = plain_key(text, places, key)
        states.append((text, places[0]))
    return states


def filled(effect, many):
    """Complete an effect to so many characters on both sides."""
    left, right, items, place = effect
    before = [k for k in range(-many, many) if k < -left]
    behind = [k for k in range(-many, many) if k >= right]
    return (*before, *items, *behind), place + len(before)


class Reach(unittest.TestCase):
    def test_small_key_lists_on_a_row_of_marks(self):
        for keys in all_keys(5):
            states = [(text, at) for text, (at,) in press_steps(ROW, (MIDDLE,), keys)]
            self.assertEqual(reach_of(keys), row_reach(states, ROW, MIDDLE), keys)

    def test_long_key_lists_on_a_row_of_marks(self):
        random = Random(8)
        for _ in range(150):
            keys = some_keys(random, 60)
            expected = row_reach(wide_states(keys), WIDE, WIDE_MIDDLE)
            self.assertEqual(reach_of(keys), expected, keys)

    def test_reaches(self):
        for keys, expected in (
            ("", (0, 0)), ("x", (0, 0)), ("x-", (0, 0)), ("x<#", (0, 0)), ("-", (1, 0)),
            ("#", (0, 1)), ("<", (1, 0)), (">", (0, 1)), ("-<", (2, 0)), ("#>", (0, 2)),
            ("<#<#", (2, 0)), ("<>", (1, 0)), ("<>-", (1, 0)), (">-#", (0, 2)), ("x<<", (1, 0)),
            ("<" * 60, (60, 0)), ("#" * 60, (0, 60)),
        ):
            with self.subTest(keys):
                self.assertEqual(reach_of(keys), expected)

    def test_by_name(self):
        self.assertEqual(reach_of(keys="<"), (1, 0))


class Depth(unittest.TestCase):
    def test_depths_and_nets(self):
        for keys, depth, net in (
            ("", 0, 0), ("<>", 0, 0), ("abc", 0, 3), ("-", 1, -1), ("#", 1, -1), ("-x", 1, 0),
            ("x-", 0, 0), ("-#-", 3, -3), ("xx---", 1, -1), ("--x-", 2, -2), ("--xx-", 2, -1),
            ("-<#>x", 2, -1), ("--x--", 3, -3), ("z" * 60, 0, 60), ("-" * 60, 60, -60),
        ):
            with self.subTest(keys):
                self.assertEqual(depth_of(keys), depth)
                self.assertEqual(net_of(keys), net)

    def test_gaps_up_to_the_depth_vanish_and_others_change_by_the_net(self):
        for keys in all_keys(4):
            depth = depth_of(keys)
            for gap in (max(1, depth - 1), max(1, depth), depth + 1, depth + 2):
                gaps = layout_after((50, (gap,), 50), runs_of(keys))[1]
                self.assertEqual(gaps, () if gap <= depth else (gap + net_of(keys),), keys)

    def test_a_gap_of_the_depth_and_one_more_in_a_text(self):
        random = Random(9)
        for _ in range(200):
            keys = some_keys(random, 30)
            depth = depth_of(keys)
            for gap in range(max(1, depth), depth + 2):
                text = "m" * (100 + gap)
                cursors = pressed(text, (50, 50 + gap), keys)[1]
                self.assertEqual(len(cursors), 1 if gap <= depth else 2, keys)

    def test_by_name(self):
        self.assertEqual(depth_of(keys="--"), 2)
        self.assertEqual(net_of(keys="--"), -2)


class FarEffect(unittest.TestCase):
    def test_small_key_lists_on_a_row_of_marks(self):
        for keys in all_keys(5):
            effect = far_effect(keys)
            self.assertEqual(filled(effect, MIDDLE), row_effect(ROW, MIDDLE, keys), keys)
            self.assertEqual(effect[:2], reach_of(keys))

    def test_long_key_lists_on_a_row_of_marks(self):
        random = Random(10)
        for _ in range(150):
            keys = some_keys(random, 60)
            expected = row_effect(WIDE, WIDE_MIDDLE, keys)
            self.assertEqual(filled(far_effect(keys), WIDE_MIDDLE), expected, keys)

    def test_effects(self):
        for keys, expected in (
            ("", (0, 0, (), 0)),
            ("ab", (0, 0, ("a", "b"), 2)),
            ("<", (1, 0, (-1,), 0)),
            (">", (0, 1, (0,), 1)),
            ("<>", (1, 0, (-1,), 1)),
            ("-", (1, 0, (), 0)),
            ("#", (0, 1, (), 0)),
            ("<<x", (2, 0, ("x", -2, -1), 1)),
            ("<-", (2, 0, (-1,), 0)),
            (">#", (0, 2, (0,), 1)),
            ("a<b>#", (0, 1, ("b", "a"), 2)),
            ("<y>>", (1, 1, ("y", -1, 0), 3)),
        ):
            with self.subTest(keys):
                self.assertEqual(far_effect(keys), expected)

    def test_by_name(self):
        self.assertEqual(far_effect(keys="a"), (0, 0, ("a",), 1))


class SameFar(unittest.TestCase):
    def test_small_key_lists_on_a_row_of_marks(self):
        lists = all_keys(3)
        lists += ["ab", "ba", "b<a>", "a<b>", "b<a", "<a>b"]
        after = {keys: pressed(ROW, (MIDDLE,), keys) for keys in lists}
        for keys in lists:
            for other in lists:
                expected = after[keys] == after[other]
                if same_far(keys, other) is not expected:
                    self.fail((keys, other, expected))

    def test_pairs(self):
        for keys, other, expected in (
            ("", "", True), ("", "<>", True), ("<>", "><", True), ("<<>>", "", True),
            ("", "x-", True), ("", "-x", False), ("a", "b", False), ("#x", "x#", True),
            ("-#", "#-", True), ("-", "<#", True), ("<", "", False), ("x<-#", "", False),
            ("x<-#", "-", True), ("<<<>>>a", "a>>><<<", True), ("<" * 30, "<" * 31, False),
            ("<x", "x<", False), ("<x>", "x", False), ("-", "#", False),
        ):
            with self.subTest(keys=keys, other=other):
                self.assertIs(same_far(keys, other), expected)
                self.assertIs(same_far(other, keys), expected)

    def test_by_name(self):
        self.assertIs(same_far(other="", keys="<>"), True)


class WrongArguments(unittest.TestCase):
    def test_wrong_keys(self):
        for function in ONE_LIST:
            for wrong in NOT_STRINGS + ("A", "a1", "ab|", "-\n", "\u00e9"):
                assert_error(self, InvalidKeys, function, wrong)

    def test_one_wrong_character_at_any_place(self):
        for function in ONE_LIST:
            for place in range(5):
                keys = "a-#<>"[:place] + "X" + "a-#<>"[place + 1:]
                assert_error(self, InvalidKeys, function, keys)

    def test_either_of_two_lists(self):
        for wrong in NOT_STRINGS + ("A", "a1"):
            assert_error(self, InvalidKeys, same_far, wrong, "a")
            assert_error(self, InvalidKeys, same_far, "a", wrong)
            assert_error(self, InvalidKeys, same_far, wrong, wrong)


if __name__ == "__main__":
    unittest.main()

import unittest
from random import Random

from cursorkeys.ends import first_difference, same_at_one
from cursorkeys.errors import InvalidKeys
from cursorkeys.pressing import pressed
from cursorkeys.reach import far_effect, reach_of, same_far
from plain import MARKS, NOT_STRINGS, all_keys, assert_error, plain_press, some_keys

CAPITALS = "ABCDEFGHIJKLMNOPQRSTUVWXYZ"
WITHOUT_EFFECT_SOMEWHERE = ("<>", "><", "a-", "a<#", "-x", "x<->", "<<>>", "<#", ">-", "<->")


def layouts_least_first(most):
    """Return all (before, behind) with at most so many characters in all, least first."""
    return [(before, size - before) for size in range(most + 1) for before in range(size + 1)]


def outcome(layout, keys):
    before, behind = layout
    return plain_press(MARKS[:before + behind], (before,), keys)


def plain_first_difference(keys, other, most):
    for layout in layouts_least_first(most):
        if outcome(layout, keys) != outcome(layout, other):
            return layout
    return None


def changed(random, keys):
    """Return a key list with something more that does nothing in some places."""
    at = random.randrange(len(keys) + 1)
    return keys[:at] + random.choice(WITHOUT_EFFECT_SOMEWHERE) + keys[at:]


class AgainstMarks(unittest.TestCase):
    def check(self, keys, other, expected):
        if first_difference(keys, other) != expected:
            self.fail((keys, other, first_difference(keys, other), expected))
        if same_at_one(keys, other) is not (expected is None):
            self.fail((keys, other, expected))

    def test_all_pairs_of_small_lists(self):
        layouts = layouts_least_first(7)
        lists = all_keys(3) + ["ab", "ba", "b<a>", "b<a", "x<-#", "x<->", "<<>>", "#-#-", "aa--", "<-a>", ">#<a"]
        outcomes = {keys: [outcome(layout, keys) for layout in layouts] for keys in lists}
        for keys in lists:
            for other in lists:
                pairs = zip(layouts, outcomes[keys], outcomes[other])
                self.check(keys, other, next((at for at, one, two in pairs if one != two), None))

    def test_pairs_of_longer_lists(self):
        random = Random(20)
        same = 0
        for _ in range(600):
            keys = some_keys(random, 7)
            other = changed(random, keys) if random.random() < 0.7 else some_keys(random, 7)
            expected = plain_first_difference(keys, other, 18)
            same += expected is None
            self.check(keys, other, expected)
        self.assertGreater(same, 100)

    def test_lists_of_24_keys(self):
        random = Random(21)
        same = 0
        for _ in range(12):
            keys = "".join(random.choice("ab-#<>") for _ in range(21))
            other = changed(random, keys)
            expected = plain_first_difference(keys, other, 26)
            same += expected is None
            self.check(keys, other, expected)
        self.assertGreater(same, 1)

    def test_a_difference_shows_in_a_text_of_letters(self):
        random = Random(22)
        for _ in range(300):
            keys = some_keys(random, 10)
            other = changed(random, keys)
            layout = first_difference(keys, other)
            if layout is not None:
                before, behind = layout
                text = CAPITALS[:before + behind]
                self.assertNotEqual(pressed(text, (before,), keys), pressed(text, (before,), other))

    def test_more_characters_than_both_reaches_change_nothing(self):
        random = Random(23)
        for _ in range(60):
            keys = some_keys(random, 6)
            other = changed(random, keys)
            most = max(sum(reach_of(keys)), sum(reach_of(other)))
            for before in range(most + 3):
                for behind in range(most + 3):
                    less = (min(before, most), min(behind, most))
                    differ = outcome((before, behind), keys) != outcome((before, behind), other)
                    self.assertEqual(differ, outcome(less, keys) != outcome(less, other), (keys, other))


class FirstDifference(unittest.TestCase):
    def test_pairs(self):
        for keys, other, expected in (
            ("", "", None), ("<", "<", None), ("a", "b", (0, 0)), ("a", "aa", (0, 0)), ("ab", "ba", (0, 0)),
            ("", "-", (1, 0)), ("", "#", (0, 1)), ("", "<", (1, 0)), ("", ">", (0, 1)), ("-", "#", (0, 1)),
            ("<", "-", (1, 0)), (">", "#", (0, 1)), ("<>", "", (0, 1)), ("><", "", (1, 0)), ("<>", "><", (0, 1)),
            ("x-", "", None), ("-x", "", (0, 0)), ("-x", "x<->", None), ("x#", "#x", None), ("x<#", "", None),
            ("x<-#", "", (1, 0)), ("-#", "#-", None), ("<#", "-", (0, 1)), (">-", "#", (1, 0)),
            ("<<>>", "<>", (0, 2)), (">><<", "><", (1, 1)), ("<<", "<", (2, 0)), (">>", ">", (0, 2)),
        ):
            with self.subTest(keys=keys, other=other):
                self.assertEqual(first_difference(keys, other), expected)
                self.assertEqual(first_difference(other, keys), expected)
                self.assertIs(same_at_one(keys, other), expected is None)
                self.assertIs(same_at_one(other, keys), expected is None)

    def test_lists_of_24_keys_that_differ_by_the_last_one(self):
        for key, expected in (("<", (24, 0)), (">", (0, 24)), ("-", (24, 0)), ("#", (0, 24))):
            with self.subTest(key):
                self.assertEqual(first_difference(key * 24, key * 23), expected)

    def test_lists_of_24_keys_that_are_the_same(self):
        self.assertIsNone(first_difference("<" * 12 + ">" * 12, "<" * 12 + ">" * 12))
        self.assertIsNone(first_difference("-" * 12 + "#" * 12, "#" * 12 + "-" * 12))
        self.assertIsNone(first_difference("-#" * 12, "#" * 12 + "-" * 12))
        self.assertIsNone(first_difference("a-" * 12, "b-" * 12))

    def test_lists_of_24_keys_that_differ_only_near_the_ends(self):
        there = "<" * 12 + ">" * 12
        self.assertIs(same_far(there, ""), True)
        self.assertEqual(first_difference(there, ""), (0, 1))
        self.assertEqual(first_difference(there, "<" * 11 + ">" * 11), (0, 12))
        self.assertEqual(first_difference("#" * 12 + "<" * 6 + ">" * 6, "#" * 12), (0, 13))

    def test_long_lists_with_a_wide_reach(self):
        self.assertEqual(first_difference("<" * 60, "<" * 59), (60, 0))
        self.assertEqual(first_difference("<" * 30 + ">" * 30, "<" * 29 + ">" * 29), (0, 30))
        self.assertIsNone(first_difference("-" * 150 + "#" * 150, "#" * 150 + "-" * 150))

    def test_lists_that_are_the_same_are_the_same_far_from_the_ends(self):
        random = Random(24)
        for _ in range(300):
            keys = some_keys(random, 12)
            other = changed(random, keys)
            if same_at_one(keys, other):
                self.assertIs(same_far(keys, other), True, (keys, other))

    def test_calls_do_not_disturb_each_other(self):
        before = far_effect("<>")
        self.assertEqual([first_difference("<>", "") for _ in range(3)], [(0, 1)] * 3)
        self.assertEqual(far_effect("<>"), before)

    def test_by_name(self):
        self.assertEqual(first_difference(other="><", keys=""), (1, 0))
        self.assertIs(same_at_one(other="x-", keys=""), True)


class WrongArguments(unittest.TestCase):
    def test_either_of_two_lists(self):
        for function in (same_at_one, first_difference):
            for wrong in NOT_STRINGS + ("A", "a1", "ab|", "-\n", "\u00e9"):
                assert_error(self, InvalidKeys, function, wrong, "a")
                assert_error(self, InvalidKeys, function, "a", wrong)
                assert_error(self, InvalidKeys, function, wrong, wrong)
            assert_error(self, InvalidKeys, function, keys="A", other="")

    def test_one_wrong_character_at_any_place(self):
        for function in (same_at_one, first_difference):
            for place in range(5):
                keys = "a-#<>"[:place] + "X" + "a-#<>"[place + 1:]
                assert_error(self, InvalidKeys, function, keys, keys)
                assert_error(self, InvalidKeys, function, keys, "a-#<>")
                assert_error(self, InvalidKeys, function, "a-#<>", keys)


if __name__ == "__main__":
    unittest.main()

import unittest
from itertools import product
from random import Random

from cursorkeys.errors import InvalidEffect, InvalidKeys, TooLong
from cursorkeys.fewest import fewest_keys, is_effect, is_shortest, shortest_keys
from cursorkeys.pressing import is_keys
from cursorkeys.reach import far_effect, same_far
from plain import MARKS, NOT_INTEGERS, NOT_STRINGS, Odd, all_keys, assert_error, odd_values, plain_press, some_keys

HUGE = 10 ** 39
NOT_EFFECTS = (
    (0, 0, (), 1), (0, 0, (), -1), (-1, 0, (), 0), (0, -1, (), 0),
    (-1, 1, (), 0), (1, -1, (), 0), (0, 1, (1,), 0), (1, 0, (0,), 0), (1, 0, (-2,), 0),
    (2, 2, (0, 0), 0), (2, 2, (1, 0), 0), (2, 2, (0, -1), 0), (2, 2, (1, "x", 0), 0), (2, 2, (0, "x", 0), 0),
    (0, 0, ("A",), 0), (0, 0, ("",), 0), (0, 0, ("ab",), 0), (0, 0, ("-",), 0),
    (0, 0, ("<",), 0), (0, 0, ("\u00e9",), 0),
    (0, 0, "x", 0), (0, 0, ["x"], 0), [0, 0, ("x",), 0], (0, 0, ("x",), 2), (0, 0, ("x",)), (0, 0, ("x",), 0, 0),
    (2, 2, (True,), 0), (2, 2, (False,), 0), (2, 2, (None,), 0), (2, 2, (1.0,), 0),
    (2, 2, ((0,),), 0), (2, 2, (b"x",), 0),
    (True, 2, (), 0), (2, True, (), 0), (2, 2, (0,), True), (2, 2, (), False), (0, 0, None, 0),
    (HUGE, HUGE, (-HUGE - 1,), 0), (HUGE, HUGE, (HUGE,), 0), (HUGE, HUGE, (HUGE - 1, HUGE - 1), 0),
)
# A row of marks that is wider than any list of 7 keys reaches.
WIDTH = 8


def after_each_key(items, at, letters):
    """Return what each key makes of items with a cursor, if there is what it needs."""
    left, right = items[:at], items[at:]
    after = [(left + (letter,) + right, at + 1) for letter in letters]
    if left:
        after.extend([(left[:-1] + right, at - 1), (items, at - 1)])
    if right:
        after.extend([(left + right[1:], at), (items, at + 1)])
    return after


def search(left, right, letters, most_keys, most_items):
    """Return the least number of keys for all (items, place) that a row of marks can become.

    The marks have the numbers -left to right - 1. No list has more than most_keys
    keys, and no row becomes longer than most_items.
    """
    found = {(tuple(range(-left, right)), left): 0}
    level = list(found)
    for number in range(1, most_keys + 1):
        reached = []
        for items, at in level:
            for after in after_each_key(items, at, letters):
                if after not in found and len(after[0]) <= most_items:
                    found[after] = number
                    reached.append(after)
        level = reached
    return found


def completed(effect, left, right):
    """Return an effect with kept characters up to these greater reaches."""
    old_left, old_right, items, place = effect
    before = tuple(range(-left, -old_left))
    return left, right, before + items + tuple(range(old_right, right)), place + len(before)


def played(keys, width):
    """Press keys in a row of marks; return the items and the place of the cursor."""
    row = MARKS[:2 * width]
    text, (at,) = plain_press(row, (width,), keys)
    return tuple(row.index(sign) - width if sign in row else sign for sign in text), at


def some_effect(random, reach, letters):
    left, right = random.randrange(reach), random.randrange(reach)
    keep = random.choice((0.1, 0.5, 0.9, 1))
    items = [k for k in range(-left, right) if random.random() < keep]
    for _ in range(random.randrange(letters + 1)):
        items.insert(random.randrange(len(items) + 1), random.choice("abz"))
    return left, right, tuple(items), random.randrange(len(items) + 1)


class IsEffect(unittest.TestCase):
    def test_small_tuples_against_all_lists(self):
        # Each row of at most 4 marks with at most 3 letters needs fewer than 20 keys.
        for left, right in product(range(3), range(3)):
            found = search(left, right, "a", 20, left + right + 3)
            for many in range(4):
                for items in product((-3, -2, -1, 0, 1, 2, "a"), repeat=many):
                    for place in range(-1, many + 2):
                        if is_effect((left, right, items, place)) is not ((items, place) in found):
                            self.fail((left, right, items, place))

    def test_far_effects_and_completed_ones(self):
        random = Random(60)
        for _ in range(200):
            effect = far_effect(some_keys(random, 60))
            self.assertIs(is_effect(effect), True)
            for more_left, more_right in ((0, 1), (1, 0), (5, 7)):
                more = completed(effect, effect[0] + more_left, effect[1] + more_right)
                self.assertIs(is_effect(more), True, more)

    def test_effects(self):
        for value in (
            (0, 0, (), 0), (5, 7, (), 0), (0, 0, ("a", "z", "a"), 3),
            (2, 2, (-2, -1, 0, 1), 4), (2, 2, (-2, "x", 1), 0),
            (HUGE, 0, (-HUGE,), 1), (0, HUGE, (HUGE - 1,), 0), (10 ** 40 - 1, HUGE, ("x", -HUGE, 0, "y", 7), 5),
            (40, 40, tuple(range(-40, 40)), 80), (0, 0, ("x",) * 80, 80),
        ):
            with self.subTest(value):
                self.assertIs(is_effect(value), True)

    def test_not_effects(self):
        for value in NOT_EFFECTS + odd_values():
            self.assertIs(is_effect(value), False, repr(value))

    def test_one_wrong_item(self):
        right = (2, 2, (-2, "x", 0, "y"), 3)
        self.assertIs(is_effect(right), True)
        for wrong in NOT_INTEGERS + (Odd(), -1, "x", ()):
            for place in (0, 1, 3):
                value = list(right)
                value[place] = wrong
                self.assertIs(is_effect(tuple(value)), False, repr(value))
        for wrong in (None, 0, True, "x", "", [-2, "x"], [], {}, {0: 1}, b"", Odd(), 1.5):
            self.assertIs(is_effect((2, 2, wrong, 0)), False, repr(wrong))
        for wrong in (None, True, False, 1.5, b"x", "", "X", "xy", "1", "#", (), [0], (0,), Odd(), -3, 2, 7):
            for place in range(4):
                items = list(right[2])
                items[place] = wrong
                self.assertIs(is_effect((2, 2, tuple(items), 3)), False, repr(items))

    def test_by_name(self):
        self.assertIs(is_effect(value=(0, 0, (), 0)), True)


class AgainstShortLists(unittest.TestCase):
    @classmethod
    def setUpClass(cls):
        cls.found = search(WIDTH, WIDTH, "a", 7, 3 * WIDTH)
        cls.found_with_two_letters = search(WIDTH, WIDTH, "ab", 5, 3 * WIDTH)

    def test_no_short_list_is_shorter(self):
        self.assertGreater(len(self.found), 5000)
        for found in (self.found, self.found_with_two_letters):
            for (items, place), number in found.items():
                if fewest_keys((WIDTH, WIDTH, items, place)) != number:
                    self.fail((items, place, number))

    def test_shortest_lists_do_it(self):
        for (items, place), number in self.found.items():
            keys = shortest_keys((WIDTH, WIDTH, items, place))
            if len(keys) != number or played(keys, WIDTH) != (items, place):
                self.fail((items, place, number, keys))

    def test_effects_that_no_short_list_has(self):
        for many in range(4):
            for items in product((-2, -1, 0, 1, "a"), repeat=many):
                for place in range(many + 1):
                    effect = (2, 2, items, place)
                    if is_effect(effect):
                        whole = completed(effect, WIDTH, WIDTH)[2:]
                        self.assertEqual(fewest_keys(effect) <= 7, whole in self.found, effect)

    def test_is_shortest(self):
        for keys in all_keys(5):
            least = self.found[played(keys, WIDTH)]
            if is_shortest(keys) is not (least == len(keys)):
                self.fail((keys, least))

    def test_lists_that_are_the_same_far_from_the_ends(self):
        random = Random(61)
        for _ in range(300):
            keys = some_keys(random, 60)
            shortest = shortest_keys(far_effect(keys))
            self.assertIs(same_far(keys, shortest), True, keys)
            self.assertLessEqual(len(shortest), len(keys))
            self.assertIs(is_shortest(keys), len(shortest) == len(keys), keys)
            self.assertIs(is_shortest(shortest), True, keys)


class FewestKeys(unittest.TestCase):
    def test_numbers(self):
        for effect, expected in (
            ((0, 0, (), 0), 0), ((0, 0, ("x",), 1), 1), ((0, 0, ("x",), 0), 2), ((0, 0, ("x", "y"), 1), 3),
            ((0, 2, ("x", 0), 1), 4), ((1, 0, (), 0), 1), ((0, 1, (), 0), 1),
            ((1, 0, (-1,), 0), 1), ((1, 0, (-1,), 1), 0),
            ((3, 3, (-3, -2, -1, 0, 1, 2), 3), 0), ((3, 3, (-3, -2, -1, 0, 1, 2), 6), 3),
            ((3, 3, (-3, -2, -1, 0, 1), 3), 5), ((3, 3, (-2, -1, 0, 1, 2), 2), 5), ((3, 3, (-2, -1, 0, 1), 2), 10),
            ((2, 2, ("x", -2, -1, 0, 1, "y"), 3), 11), ((2, 2, ("x", -2, -1, 0, 1), 5), 7),
            ((2, 2, (-2, -1, 0, 1, "x"), 0), 8),
            ((2, 2, ("x", -2, -1, 0, 1), 0), 4), ((2, 2, ("x", -2, -1, 0, 1), 1), 3),
        ):
            with self.subTest(effect):
                self.assertEqual(fewest_keys(effect), expected)
                self.assertEqual(len(shortest_keys(effect)), expected)

    def test_large_numbers(self):
        for effect, expected in (
            ((HUGE, HUGE, (), 0), 2 * HUGE),
            ((HUGE, 0, (-HUGE,), 0), HUGE),
            ((HUGE, 0, (-HUGE,), 1), HUGE - 1),
            ((0, HUGE, (7, HUGE - 1), 0), HUGE - 2 + 2),
            ((0, HUGE, (7, HUGE - 1), 1), HUGE - 2 + 1),
            ((0, HUGE, (7, HUGE - 1, "x"), 2), HUGE - 2 + 2 + 2),
            ((HUGE, HUGE, ("x", -HUGE, HUGE - 1, "y"), 2), 2 * HUGE - 2 + 2 + 1 + 4),
        ):
            with self.subTest(effect):
                self.assertEqual(fewest_keys(effect), expected)

    def test_completing_changes_nothing(self):
        random = Random(62)
        for _ in range(300):
            effect = some_effect(random, 9, 4)
            for more_left, more_right in ((0, 1), (1, 0), (3, 0), (0, 3), (4, 9)):
                more = completed(effect, effect[0] + more_left, effect[1] + more_right)
                self.assertEqual(fewest_keys(more), fewest_keys(effect), (effect, more))
                self.assertEqual(len(shortest_keys(more)), fewest_keys(effect))
                self.assertIs(same_far(shortest_keys(more), shortest_keys(effect)), True)

    def test_a_cursor_far_from_the_changed_places(self):
        row = tuple(range(-30, 30))
        for items, place, expected in (
            (row[1:], 59, 1 + 29 + 59), (row[:-1], 0, 1 + 29 + 59), (row[1:], 0, 30), (row[:-1], 59, 30),
            (("x",) + row, 61, 1 + 30 + 60), (row + ("x",), 0, 2 + 30 + 60), (row[:10] + row[11:], 40, 1 + 19 + 30),
        ):
            with self.subTest(items=items, place=place):
                self.assertEqual(fewest_keys((30, 30, items, place)), expected)
                self.assertEqual(played(shortest_keys((30, 30, items, place)), 30), (items, place))

    def test_by_name(self):
        self.assertEqual(fewest_keys(effect=(0, 2, ("x", 0), 1)), 4)


class ShortestKeys(unittest.TestCase):
    def test_played_on_marks(self):
        random = Random(63)
        for _ in range(600):
            effect = some_effect(random, 13, 8)
            keys = shortest_keys(effect)
            self.assertIs(is_keys(keys), True)
            self.assertEqual(len(keys), fewest_keys(effect))
            self.assertEqual(played(keys, 14), completed(effect, 14, 14)[2:], (effect, keys))

    def test_no_keys(self):
        for effect in ((0, 0, (), 0), (3, 0, (-3, -2, -1), 3), (0, 2, (0, 1), 0)):
            self.assertEqual(shortest_keys(effect), "")

    def test_300_keys_and_301(self):
        for effect, longer in (
            ((300, 0, (), 0), (301, 0, (), 0)),
            ((0, 300, (), 0), (0, 301, (), 0)),
            ((150, 150, (), 0), (150, 151, (), 0)),
            ((0, 0, ("x",) * 300, 300), (0, 0, ("x",) * 301, 301)),
            ((0, 0, ("x",) * 150, 0), (0, 0, ("x",) * 151, 1)),
            ((0, 300, tuple(range(300)), 300), (0, 301, tuple(range(301)), 301)),
            ((99, 99, ("y", *range(-99, 99), "x"), 1), (99, 99, ("y", *range(-99, 99), "x"), 0)),
        ):
            with self.subTest(effect):
                keys = shortest_keys(effect)
                self.assertEqual(len(keys), 300)
                self.assertEqual(played(keys, 301), completed(effect, 301, 301)[2:])
                self.assertEqual(fewest_keys(longer), 301)
                assert_error(self, TooLong, shortest_keys, longer)

    def test_too_long_tells_the_limit(self):
        for effect in ((301, 0, (), 0), (HUGE, HUGE, ("x",), 0)):
            with self.assertRaises(TooLong) as caught:
                shortest_keys(effect)
            self.assertEqual(caught.exception.limit, 300)
            self.assertGreater(fewest_keys(effect), 300)

    def test_by_name(self):
        self.assertEqual(shortest_keys(effect=(0, 0, ("x",), 1)), "x")


class IsShortest(unittest.TestCase):
    def test_lists(self):
        for keys, expected in (
            ("", True), ("x", True), ("x<", True), ("<>", False), ("x<>", False), ("x-", False), ("-x", True),
            ("x<#", False), ("<#", False), (">-", False), ("-" * 60, True), ("x" * 60, True), ("x<" * 30, True),
            ("<x>", True), (">x<", True), (">x<<>", False), (">x<<", True),
            ("<" * 30 + ">" * 30, False), ("<" * 59 + "#", False),
            ("<" * 59 + "-", True), ("-#" * 30, True),
        ):
            with self.subTest(keys):
                self.assertIs(is_shortest(keys), expected)

    def test_what_was_returned_may_be_passed_back(self):
        keys = shortest_keys((150, 150, (), 0))
        self.assertIs(is_shortest(keys), True)
        self.assertIs(is_shortest(keys + "<>"), False)

    def test_by_name(self):
        self.assertIs(is_shortest(keys="x"), True)


class WrongArguments(unittest.TestCase):
    def test_wrong_effects(self):
        for function in (fewest_keys, shortest_keys):
            for wrong in NOT_EFFECTS + odd_values():
                assert_error(self, InvalidEffect, function, wrong)

    def test_a_wrong_effect_comes_before_too_long(self):
        assert_error(self, InvalidEffect, shortest_keys, (301, 0, (), 1))
        assert_error(self, InvalidEffect, shortest_keys, (HUGE, HUGE, ("X",), 0))
        assert_error(self, InvalidEffect, shortest_keys, [301, 0, (), 0])

    def test_wrong_keys(self):
        for wrong in NOT_STRINGS + ("A", "a1", "ab|", "-\n", "\u00e9"):
            assert_error(self, InvalidKeys, is_shortest, wrong)

    def test_one_wrong_character_at_any_place(self):
        for place in range(5):
            keys = "a-#<>"[:place] + "X" + "a-#<>"[place + 1:]
            assert_error(self, InvalidKeys, is_shortest, keys)

    def test_wrong_arguments_stay_unchanged(self):
        effect = [0, 2, ["x", 0], 1]
        assert_error(self, InvalidEffect, fewest_keys, effect)
        self.assertIs(is_effect(effect), False)
        self.assertEqual(effect, [0, 2, ["x", 0], 1])


if __name__ == "__main__":
    unittest.main()

import copy
import unittest
from random import Random
from unittest.mock import ANY

from cursorkeys.errors import InvalidCursors, InvalidIndex, InvalidKeys, InvalidRounds
from cursorkeys.errors import InvalidText, NotKeys, TooLong
from cursorkeys.keylists import Keys
from cursorkeys.pressing import pressed
from plain import NOT_INTEGERS, NOT_STRINGS, Odd, all_keys, assert_error, odd_values
from plain import plain_press, some_keys, some_state

EVERY_KEY = "abcdefghijklmnopqrstuvwxyz-#<>"


def add(one, two):
    return one + two


def repeat(one, two):
    return one * two


def item(one, at):
    return one[at]


class AgainstStrings(unittest.TestCase):
    def check_pair(self, one, two):
        a, b = Keys(one), Keys(two)
        self.assertEqual((a + b).written, one + two)
        self.assertIs(a == b, one == two)
        self.assertIs(a != b, one != two)
        self.assertIs(a.begins(b), two.startswith(one))

    def check_alone(self, word):
        keys = Keys(word)
        self.assertEqual(keys.written, word)
        self.assertEqual(len(keys), len(word))
        self.assertIs(bool(keys), bool(word))
        self.assertEqual((-keys).written, word[::-1])
        self.assertEqual([keys[at] for at in range(len(word))], list(word))
        self.assertEqual([key for key in EVERY_KEY if key in keys], [key for key in EVERY_KEY if key in word])
        for many in range(4):
            self.assertEqual((keys * many).written, word * many)

    def test_all_small_lists(self):
        lists = all_keys(3)
        for word in lists:
            self.check_alone(word)
            for other in lists:
                self.check_pair(word, other)

    def test_longer_lists(self):
        random = Random(60)
        for _ in range(300):
            word = some_keys(random, 60)
            self.check_alone(word)
            self.check_pair(word, some_keys(random, 60))
            self.check_pair(word, word)
            self.check_pair(word[:random.randrange(len(word) + 1)], word)

    def test_every_key(self):
        self.check_alone(EVERY_KEY)
        for key in EVERY_KEY:
            self.check_alone(key)

    def test_results_are_keys_objects(self):
        a = Keys("a-")
        for made in (a + a, a * 2, a * 0, -a):
            self.assertIs(made.__class__, Keys)


class Calls(unittest.TestCase):
    def test_against_a_text_pressed_key_by_key(self):
        random = Random(61)
        for _ in range(500):
            text, cursors = some_state(random, 14)
            word = some_keys(random, 16)
            expected = plain_press(text, cursors, word)
            with self.subTest(text=text, cursors=cursors, keys=word):
                self.assertEqual(Keys(word)(text, cursors), expected)
                self.assertEqual(pressed(text, cursors, word), expected)

    def test_sums_are_pressed_one_behind_another(self):
        random = Random(62)
        for _ in range(200):
            text, cursors = some_state(random, 10)
            a, b = Keys(some_keys(random, 8)), Keys(some_keys(random, 8))
            self.assertEqual((a + b)(text, cursors), b(*a(text, cursors)))
            self.assertEqual((a * 3)(text, cursors), a(*a(*a(text, cursors))))
            self.assertEqual((a * 0)(text, cursors), (text, cursors))

    def test_a_long_text(self):
        text, cursors = "aB" * 150, tuple(range(0, 300, 15))
        word = "x-#<>y" * 10
        self.assertEqual(Keys(word)(text, cursors), plain_press(text, cursors, word))

    def test_by_name(self):
        self.assertEqual(Keys(text="-x")(cursors=(1, 3), text="abc"), ("xbx", (1, 3)))
        self.assertIs(Keys("").begins(other=Keys("a")), True)

    def test_errors(self):
        keys = Keys("a-")
        for value in NOT_STRINGS + ("a1", "a|b", "-", "\u00e9"):
            assert_error(self, InvalidText, keys.__call__, value, (0,))
            assert_error(self, InvalidText, keys.__call__, value, None)
        for value in ((), (4,), (-1,), (1, 1), (2, 1), [0], None, 0, (True,), ("0",), (0, 1.0)):
            assert_error(self, InvalidCursors, keys.__call__, "abc", value)
        assert_error(self, InvalidCursors, Keys("").__call__, "abc", ())
        self.assertEqual(keys.written, "a-")


class Constructor(unittest.TestCase):
    def test_values_of_other_kinds(self):
        for value in NOT_STRINGS + (Keys("a"), Odd(), Keys, ["a"], ("a", "b"), {"a"}):
            assert_error(self, InvalidKeys, Keys, value)

    def test_one_wrong_character_at_any_place(self):
        for wrong in "AZ19 |\n_+\u00e9\u0430\u00b2":
            for place in range(6):
                word = "a-#<>b"
                assert_error(self, InvalidKeys, Keys, word[:place] + wrong + word[place + 1:])

    def test_long_lists_are_allowed(self):
        self.assertEqual(len(Keys("a" * 301)), 301)


class Sums(unittest.TestCase):
    def test_the_other_operand(self):
        for value in odd_values() + ("a", "-", ["a"], Keys):
            assert_error(self, NotKeys, add, Keys("a"), value)
            assert_error(self, NotKeys, add, Keys("a" * 301), value)
            assert_error(self, NotKeys, Keys("a").begins, value)
            assert_error(self, NotKeys, Keys("").begins, value)

    def test_exactly_300_keys_and_301(self):
        for many in (0, 1, 150, 299, 300):
            self.assertEqual(len(Keys("a" * many) + Keys("-" * (300 - many))), 300)
            assert_error(self, TooLong, add, Keys("a" * many), Keys("-" * (301 - many)))
        assert_error(self, TooLong, add, Keys(""), Keys("a" * 301))
        assert_error(self, TooLong, add, Keys("a" * 301), Keys(""))

    def test_too_long_has_the_limit(self):
        for function, args in ((add, (Keys("a" * 300), Keys("b"))), (repeat, (Keys("abc"), 101))):
            with self.assertRaises(TooLong) as caught:
                function(*args)
            self.assertEqual(caught.exception.limit, 300)

    def test_in_place_signs_make_a_new_object(self):
        a = Keys("a-")
        b = a
        b += Keys("<")
        self.assertEqual((a.written, b.written), ("a-", "a-<"))
        b *= 2
        self.assertEqual((a.written, b.written), ("a-", "a-<a-<"))


class Products(unittest.TestCase):
    def test_exactly_300_keys_and_301(self):
        for word, many in (("a", 300), ("ab", 150), ("abc", 100), ("a" * 300, 1), ("-" * 150, 2)):
            self.assertEqual((Keys(word) * many).written, word * many)
            assert_error(self, TooLong, repeat, Keys(word), many + 1)
        assert_error(self, TooLong, repeat, Keys("a" * 301), 1)
        assert_error(self, TooLong, repeat, Keys("abcdefg"), 43)
        self.assertEqual(len(Keys("abcdefg") * 42), 294)

    def test_0_times(self):
        for word in ("", "a", "a-#<>", "a" * 301):
            self.assertEqual((Keys(word) * 0).written, "")

    def test_huge_numbers(self):
        for many in (301, 2 ** 31, 2 ** 63, 10 ** 40 - 1, 10 ** 60):
            self.assertEqual((Keys("") * many).written, "")
            assert_error(self, TooLong, repeat, Keys("a"), many)

    def test_wrong_numbers(self):
        for value in NOT_INTEGERS + (-1, -10 ** 40, "", "a", [], (), Keys("a"), Odd(), float("nan")):
            for word in ("", "a", "a" * 301):
                assert_error(self, InvalidRounds, repeat, Keys(word), value)


class Equality(unittest.TestCase):
    def test_values_of_other_kinds_from_both_sides(self):
        for value in odd_values() + ("a", "a-", ["a"], ("a",), Keys, Odd()):
            for keys in (Keys("a"), Keys("a-"), Keys("")):
                self.assertIs(keys == value, False)
                self.assertIs(value == keys, False)
                self.assertIs(keys != value, True)
                self.assertIs(value != keys, True)

    def test_a_value_that_is_equal_to_all(self):
        self.assertIs(Keys("a") == ANY, False)

    def test_two_objects_with_the_same_keys(self):
        self.assertIs(Keys("a-") == Keys("a-"), True)
        self.assertIs(Keys("a") + Keys("-") == Keys("a-"), True)
        self.assertIs(Keys("") == Keys("a") * 0, True)
        self.assertIs(Keys("x") == Keys("y"), False)
        self.assertIn(Keys("a"), [Keys("b"), Keys("a")])


class Membership(unittest.TestCase):
    def test_values_that_are_no_key_in_it(self):
        keys = Keys("ab-#<")
        for value in odd_values() + ("ab", "ab-", "b-", ">", "c", "A", " ", "\u00e4", b"a", 97, Keys("a"), ["a"], ANY):
            self.assertIs(value in keys, False)
            self.assertIs(value not in keys, True)

    def test_the_empty_list(self):
        for value in odd_values() + tuple(EVERY_KEY):
            self.assertIs(value in Keys(""), False)


class Indexes(unittest.TestCase):
    def test_first_and_last(self):
        keys = Keys("a-#<>")
        self.assertEqual((keys[0], keys[len(keys) - 1]), ("a", ">"))
        for at in (-1, len(keys), len(keys) + 1, -len(keys), 10 ** 40, -10 ** 40):
            assert_error(self, InvalidIndex, item, keys, at)

    def test_the_empty_list(self):
        for at in (0, -1, 1, True, False, None, slice(0, 0)):
            assert_error(self, InvalidIndex, item, Keys(""), at)

    def test_values_of_other_kinds(self):
        values = NOT_INTEGERS + (slice(0, 1), slice(None), (0, 1), (), [], {}, "", "a", ..., Odd(), Keys("a"))
        for value in values:
            assert_error(self, InvalidIndex, item, Keys("abc"), value)


class Iteration(unittest.TestCase):
    def test_no_way_to_iterate(self):
        for keys in (Keys("ab"), Keys("")):
            for way in (iter, list, tuple, set, sorted, "".join, lambda x: [*x], lambda x: [y for y in x]):
                with self.assertRaises(TypeError):
                    way(keys)


class NeverChanges(unittest.TestCase):
    def test_nothing_changes_it(self):
        a, b = Keys("a-#"), Keys("<>")
        for use in (
            lambda: a + b, lambda: b + a, lambda: a * 5, lambda: -a, lambda: a == b, lambda: len(a),
            lambda: "-" in a, lambda: a[1], lambda: a("abc", (0, 2)), lambda: a.begins(b), lambda: b.begins(a),
        ):
            first = use()
            self.assertEqual(use(), first)
            self.assertEqual((a.written, b.written), ("a-#", "<>"))

    def test_errors_change_nothing(self):
        a = Keys("a-#")
        for error, function, args in (
            (NotKeys, add, (a, "a")), (TooLong, repeat, (a, 101)), (InvalidRounds, repeat, (a, -1)),
            (InvalidIndex, item, (a, 3)), (NotKeys, a.begins, (None,)), (InvalidText, a, ("1", (0,))),
        ):
            with self.assertRaises(error):
                function(*args)
            self.assertEqual(a.written, "a-#")

    def test_its_property_cannot_be_set(self):
        a = Keys("a")
        with self.assertRaises(AttributeError):
            a.written = "b"
        with self.assertRaises(TypeError):
            a[0] = "b"
        self.assertEqual(a.written, "a")

    def test_a_copy_is_equal(self):
        a = Keys("a-")
        self.assertEqual(copy.copy(a), a)


if __name__ == "__main__":
    unittest.main()

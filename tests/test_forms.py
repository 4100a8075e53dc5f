import unittest
from itertools import product
from math import comb
from random import Random

from cursorkeys.errors import HasMoves, InvalidForm, InvalidKeys, TooLong
from cursorkeys.forms import count_keys, form_of, is_form, joined, keys_of
from cursorkeys.forms import parting_layout, same_everywhere
from cursorkeys.pressing import pressed
from plain import MARKS, NOT_INTEGERS, NOT_STRINGS, all_cursors, all_keys, all_layouts
from plain import Odd, assert_error, odd_values, plain_press, some_form, some_keys, state_of

HUGE = 10 ** 39
NO_MOVES = "ab-#"
NOT_FORMS = (
    (0, "", 0, 1), (1, "", 0, 0), (1, "", 0, 2), (0, "", 1, 0), (0, "", 1, 2), (0, "x", 1, 2), (1, "x", 0, 0),
    (0, "x", 2, 0), (2, "xxx", 0, 1), (-1, "", 0, 0), (0, "", -1, 0), (0, "", 0, -1), (-1, "x", 1, 0), (1, "", -1, 1),
    (0, "X", 0, 0), (0, "1", 0, 0), (0, "-", 0, 0), (0, "#", 0, 0), (0, "<", 0, 0),
    (0, "a ", 0, 0), (0, "\u00e9", 0, 0),
    (HUGE, "", HUGE, 2 * HUGE - 1), (HUGE, "", HUGE, 2 * HUGE + 1), (HUGE, "x", HUGE, 2 * HUGE - 2),
    [0, "", 0, 0], (0, "", 0), (0, "", 0, 0, 0), ("", 0, 0, 0), (),
)


def by_the_document(text, cursors, form):
    """Return what a form leaves of a text with cursors, in the document's own words."""
    b, word, a, depth = form
    first = text[:cursors[0]]
    regions = [first[:max(0, len(first) - b)] + word]
    for left, right in zip(cursors, cursors[1:]):
        gap = text[left:right]
        g = len(gap)
        if g > depth:
            regions.append((gap[:g - b] + word)[a:])
    last = text[cursors[-1]:]
    places = []
    for region in regions:
        places.append(len(region) + (places[-1] if places else 0))
    return "".join(regions) + last[min(a, len(last)):], tuple(places)


def measured_form(keys):
    """Return the form of a list from what it does to marks."""
    middle = len(keys)
    row = MARKS[:2 * middle]
    text, (at,) = plain_press(row, (middle,), keys)
    left = [sign for sign in text[:at] if sign in row]
    right = [sign for sign in text[at:] if sign in row]
    word = text[len(left):at]
    gap = 1
    while len(plain_press(MARKS[:gap], (0, gap), keys)[1]) == 1:
        gap += 1
    return middle - len(left), word, middle - len(right), gap - 1


def differ(layout, keys, other):
    text, cursors = state_of(layout)
    return plain_press(text, cursors, keys) != plain_press(text, cursors, other)


def layouts_in_order(most):
    """Return all layouts with at most one gap, in the order that parting_layout wants."""
    return [layout for size in range(most + 1) for many in (0, 1) for layout in all_layouts(size, many)]


def plain_parting_layout(keys, other, layouts):
    return next((layout for layout in layouts if differ(layout, keys, other)), None)


def small_forms(most, words):
    """Return all tuples like forms with such words and numbers up to most, D up to one more than b + a."""
    numbers = range(most + 1)
    return [
        (b, word, a, depth)
        for b, word, a in product(numbers, words, numbers)
        for depth in range(b + a + 2)
    ]


class FormOf(unittest.TestCase):
    def test_all_small_lists_on_marks(self):
        for keys in all_keys(6, "a-#") + all_keys(4, "ab-#"):
            self.assertEqual(form_of(keys), measured_form(keys), keys)

    def test_long_lists_on_marks(self):
        random = Random(30)
        for _ in range(40):
            keys = some_keys(random, 60, "abc--##")
            self.assertEqual(form_of(keys), measured_form(keys), keys)

    def test_forms(self):
        for keys, expected in (
            ("", (0, "", 0, 0)), ("ab", (0, "ab", 0, 0)), ("-", (1, "", 0, 1)), ("#", (0, "", 1, 1)),
            ("ab-", (0, "a", 0, 0)), ("ab---c", (1, "c", 0, 1)), ("#x", (0, "x", 1, 1)), ("x#", (0, "x", 1, 0)),
            ("#-", (1, "", 1, 2)), ("a-b-c", (0, "c", 0, 0)), ("-" * 60, (60, "", 0, 60)), ("#" * 60, (0, "", 60, 60)),
            ("z" * 60, (0, "z" * 60, 0, 0)), ("x" * 30 + "#" * 30, (0, "x" * 30, 30, 0)),
        ):
            with self.subTest(keys):
                self.assertEqual(form_of(keys), expected)

    def test_by_name(self):
        self.assertEqual(form_of(keys="-"), (1, "", 0, 1))


class WhatAFormLeaves(unittest.TestCase):
    def test_small_lists_on_all_small_texts(self):
        for length in range(6):
            for cursors in all_cursors(length):
                for keys in all_keys(4, "a-#"):
                    text = MARKS[:length]
                    left = by_the_document(text, cursors, form_of(keys))
                    self.assertEqual(left, plain_press(text, cursors, keys), (cursors, keys))

    def test_long_lists_on_texts(self):
        random = Random(31)
        for _ in range(150):
            keys = some_keys(random, 60, "abc-#")
            many = random.randrange(1, 21)
            cursors = tuple(sorted(random.sample(range(301), many)))
            text = "".join(random.choice("abXY") for _ in range(300))
            self.assertEqual(by_the_document(text, cursors, form_of(keys)), pressed(text, cursors, keys))


class IsForm(unittest.TestCase):
    def test_small_tuples_against_all_lists(self):
        forms = {form_of(keys) for keys in all_keys(6, "ab-#")}
        words = ["", "a", "b", "aa", "ab", "ba", "bb"]
        for value in small_forms(2, words):
            self.assertIs(is_form(value), value in forms, value)

    def test_other_words_and_numbers(self):
        for value in (
            (0, "z" * 300, 0, 0), (HUGE, "", HUGE, 2 * HUGE), (HUGE, "x", HUGE, 2 * HUGE - 1), (0, "az", 2, 0),
            (HUGE, "x" * 300, 300, HUGE), (HUGE, "x" * 300, 300, HUGE + 300), (10 ** 40, "", 0, 10 ** 40),
        ):
            with self.subTest(value):
                self.assertIs(is_form(value), True)
        for value in (
            (HUGE, "x" * 300, 300, HUGE - 1), (HUGE, "x" * 300, 300, HUGE + 301), (HUGE, "x" * 300, 301, HUGE),
        ):
            with self.subTest(value):
                self.assertIs(is_form(value), False)

    def test_not_forms(self):
        for value in NOT_FORMS + odd_values():
            self.assertIs(is_form(value), False, repr(value))

    def test_one_wrong_item(self):
        for wrong in NOT_INTEGERS + (Odd(), (), "", -1):
            for place in (0, 2, 3):
                value = [1, "x", 1, 1]
                value[place] = wrong
                self.assertIs(is_form(tuple(value)), False, repr(value))
        for wrong in NOT_STRINGS + (Odd(),):
            self.assertIs(is_form((1, wrong, 1, 1)), False, repr(wrong))

    def test_a_bool_is_no_number(self):
        self.assertIs(is_form((1, "x", 1, 1)), True)
        for value in ((True, "x", 1, 1), (1, "x", True, 1), (1, "x", 1, True), (0, "x", 0, False)):
            self.assertIs(is_form(value), False)

    def test_one_wrong_character_in_the_word(self):
        for wrong in "-#<>AZ1 |\n_`{\u00e9\u0430":
            for place in range(4):
                word = "abyz"[:place] + wrong + "abyz"[place + 1:]
                self.assertIs(is_form((0, word, 0, 0)), False, word)

    def test_by_name(self):
        self.assertIs(is_form(value=(0, "", 0, 0)), True)


class Joined(unittest.TestCase):
    def test_small_lists(self):
        lists = all_keys(3, NO_MOVES)
        for keys in lists:
            for other in lists:
                if joined(form_of(keys), form_of(other)) != form_of(keys + other):
                    self.fail((keys, other))

    def test_many_lists(self):
        random = Random(32)
        for _ in range(200):
            lists = [some_keys(random, 12, NO_MOVES) for _ in range(random.randrange(1, 22))]
            forms = [form_of(keys) for keys in lists]
            self.assertEqual(joined(*forms), form_of("".join(lists)))

    def test_one_form(self):
        self.assertEqual(joined((1, "x", 0, 1)), (1, "x", 0, 1))

    def test_large_numbers(self):
        self.assertEqual(joined((HUGE, "", 0, HUGE), (0, "x" * 300, HUGE, HUGE)), (HUGE, "x" * 300, HUGE, 2 * HUGE))
        self.assertEqual(joined((0, "x" * 300, 0, 0), (HUGE, "y", 0, HUGE)), (HUGE - 300, "y", 0, HUGE - 300))
        self.assertEqual(joined((0, "ab", 0, 0), (1, "c", HUGE, HUGE)), (0, "ac", HUGE, HUGE - 2))
        self.assertEqual(joined((0, "ab", 0, 0), (2, "c", 0, 2)), (0, "c", 0, 0))
        self.assertEqual(joined((0, "ab", 0, 0), (3, "c", 0, 3)), (1, "c", 0, 1))

    def test_a_lower_second_depth_does_not_count(self):
        self.assertEqual(joined((HUGE, "x" * 300, 0, HUGE), (0, "", 299, 299)), (HUGE, "x" * 300, 299, HUGE))
        self.assertEqual(joined((HUGE, "x" * 300, 0, HUGE), (0, "", 301, 301)), (HUGE, "x" * 300, 301, HUGE + 1))

    def test_brackets_do_not_matter(self):
        random = Random(33)
        for digits in (1, 2, 40):
            for _ in range(100):
                one, two, three = [some_form(random, 10 ** digits, 300) for _ in range(3)]
                self.assertEqual(joined(joined(one, two), three), joined(one, joined(two, three)))
                self.assertEqual(joined(one, two, three), joined(one, joined(two, three)))
                self.assertIs(is_form(joined(one, two, three)), True)

    def test_words_that_become_long(self):
        self.assertEqual(joined(*[(0, "x" * 300, 0, 0)] * 20), (0, "x" * 6000, 0, 0))

    def test_by_name(self):
        self.assertEqual(joined(form=(0, "", 1, 1)), (0, "", 1, 1))


class KeysOf(unittest.TestCase):
    def test_all_small_forms(self):
        for form in small_forms(3, ["", "a", "ab", "aba"]):
            if is_form(form):
                keys = keys_of(form)
                self.assertEqual(form_of(keys), form)
                self.assertEqual(len(keys), form[0] + len(form[1]) + form[2])

    def test_no_shorter_list_has_the_form(self):
        for keys in all_keys(6, NO_MOVES):
            if len(keys_of(form_of(keys))) > len(keys):
                self.fail(keys)

    def test_long_lists(self):
        random = Random(34)
        for _ in range(300):
            form = some_form(random, 100, 100)
            keys = keys_of(form)
            self.assertIsInstance(keys, str)
            self.assertEqual(form_of(keys), form)
            self.assertEqual(len(keys), form[0] + len(form[1]) + form[2])

    def test_300_keys_and_301(self):
        for form in (
            (300, "", 0, 300), (0, "x" * 300, 0, 0), (0, "", 300, 300), (100, "x" * 100, 100, 150),
            (0, "x" * 150, 150, 0), (99, "y" * 101, 100, 99),
        ):
            b, word, a, depth = form
            with self.subTest(form):
                self.assertEqual(len(keys_of(form)), 300)
                self.assertEqual(form_of(keys_of(form)), form)
                for longer in ((b + 1, word, a, depth + 1), (b, word + "z", a, depth), (b, word, a + 1, depth + 1)):
                    for function in (keys_of, count_keys):
                        assert_error(self, TooLong, function, longer)

    def test_too_long_tells_the_limit(self):
        for function in (keys_of, count_keys):
            for form in ((301, "", 0, 301), (0, "x" * 301, 0, 0), (HUGE, "", HUGE, 2 * HUGE)):
                with self.assertRaises(TooLong) as caught:
                    function(form)
                self.assertEqual(caught.exception.limit, 300)

    def test_by_name(self):
        self.assertEqual(keys_of(form=(0, "ab", 0, 0)), "ab")


class CountKeys(unittest.TestCase):
    def test_all_arrangements_of_few_keys(self):
        many = {}
        for keys in all_keys(7, "a-#") + all_keys(5, "ab-#"):
            form = form_of(keys)
            if len(keys) == form[0] + len(form[1]) + form[2]:
                many.setdefault(form, set()).add(keys)
        self.assertGreater(len(many), 300)
        for form, lists in many.items():
            self.assertEqual(count_keys(form), len(lists), form)

    def test_all_depths_together_are_all_arrangements(self):
        random = Random(35)
        sizes = [(0, 0, 0), (0, 300, 0), (100, 100, 100), (0, 150, 150), (150, 0, 150), (40, 60, 200)]
        sizes += [(random.randrange(30), random.randrange(30), random.randrange(30)) for _ in range(60)]
        for b, letters, a in sizes:
            word = "xy" * (letters // 2) + "z" * (letters & 1)
            depths = range(max(b, a + b - letters), a + b + 1)
            total = sum(count_keys((b, word, a, depth)) for depth in depths)
            self.assertEqual(total, comb(b + letters + a, a), (b, letters, a))

    def test_counts(self):
        for form, expected in (
            ((0, "", 0, 0), 1), ((1, "", 1, 2), 2), ((0, "x", 1, 0), 1), ((0, "x", 1, 1), 1), ((0, "xx", 2, 0), 2),
            ((0, "xx", 2, 1), 3), ((0, "xx", 2, 2), 1), ((1, "x", 1, 1), 1), ((1, "x", 1, 2), 2),
            ((0, "", 300, 300), 1), ((150, "", 150, 300), comb(300, 150)), ((0, "x" * 299, 1, 1), 1),
            ((0, "x" * 299, 1, 0), 299),
        ):
            with self.subTest(form):
                self.assertEqual(count_keys(form), expected)

    def test_by_name(self):
        self.assertEqual(count_keys(form=(0, "ab", 0, 0)), 1)


class Parting(unittest.TestCase):
    def check(self, keys, other, expected):
        if parting_layout(keys, other) != expected:
            self.fail((keys, other, parting_layout(keys, other), expected))
        if same_everywhere(keys, other) is not (expected is None):
            self.fail((keys, other, expected))

    def test_all_pairs_of_small_lists(self):
        layouts = layouts_in_order(5)
        lists = all_keys(3, "a-#") + ["ab", "ba", "ab-#", "a##b", "aa##", "#aa#", "##aa", "--aa", "-aa#", "#-aa"]
        for keys in lists:
            for other in lists:
                self.check(keys, other, plain_parting_layout(keys, other, layouts))

    def test_pairs_of_longer_lists(self):
        random = Random(36)
        layouts = layouts_in_order(10)
        same = 0
        for _ in range(250):
            keys = some_keys(random, 8, "ab--##")
            arranged = "".join(random.sample(keys, len(keys)))
            for other in (arranged, keys_of(form_of(keys)), keys + "a-", keys[:-1], keys + "#"):
                expected = plain_parting_layout(keys, other, layouts)
                same += expected is None
                self.check(keys, other, expected)
        self.assertGreater(same, 100)

    def test_pairs_with_the_same_word_and_larger_numbers(self):
        layouts = layouts_in_order(9)
        forms = [form for form in small_forms(4, ["a", "aa", "aaaa"]) if is_form(form)]
        random = Random(37)
        for _ in range(1500):
            form = random.choice(forms)
            near = [two for two in forms if two[1] == form[1] and sum(x != y for x, y in zip(form, two)) <= 2]
            keys, other = keys_of(form), keys_of(random.choice(near))
            self.check(keys, other, plain_parting_layout(keys, other, layouts))

    def test_equal_forms_are_the_same_with_several_cursors(self):
        states = [(MARKS[:length], cursors) for length in range(5) for cursors in all_cursors(length)]
        lists = all_keys(3, "a-#")
        done = {keys: [plain_press(text, cursors, keys) for text, cursors in states] for keys in lists}
        for keys in lists:
            for other in lists:
                self.assertIs(same_everywhere(keys, other), done[keys] == done[other], (keys, other))

    def test_layouts(self):
        ups = "#" * 30
        word = "x" * 30
        for keys, other, expected in (
            ("", "", None), ("", "x-", None), ("#-", "-#", None), ("#x", "x#", (0, (1,), 0)), ("a", "b", (0, (), 0)),
            ("a", "", (0, (), 0)), ("", "-", (1, (), 0)), ("", "#", (0, (), 1)), ("-", "#", (0, (), 1)),
            ("-", "--", (2, (), 0)), ("#", "##", (0, (), 2)),
            ("x#", "x##", (0, (1,), 0)), ("xx#", "xx##", (0, (1,), 0)),
            (ups + word, word + ups, (0, (1,), 0)), (ups + word, ups[1:] + "x#" + word[1:], (0, (30,), 0)),
            ("-" * 60, "-" * 59, (60, (), 0)), ("#" * 60, "#" * 59, (0, (), 60)),
            (word + ups, word + ups[1:], (0, (1,), 0)),
        ):
            with self.subTest(keys=keys, other=other):
                self.check(keys, other, expected)
                self.check(other, keys, expected)

    def test_lists_that_differ_only_by_depth(self):
        for depth in range(30):
            keys = "#" * depth + "x" * 30 + "#" * (30 - depth)
            other = "#" * (depth + 1) + "x" * 30 + "#" * (29 - depth)
            self.check(keys, other, (0, (depth + 1,), 0))
            self.assertTrue(differ((0, (depth + 1,), 0), keys, other))
            if depth > 0:
                self.assertFalse(differ((0, (depth,), 0), keys, other))

    def test_by_name(self):
        self.assertEqual(parting_layout(other="x#", keys="#x"), (0, (1,), 0))
        self.assertIs(same_everywhere(other="x#", keys="#x"), False)


class WrongArguments(unittest.TestCase):
    def test_wrong_keys(self):
        for wrong in NOT_STRINGS + ("A", "a1", "ab|", "-\n", "<A", "\u00e9"):
            assert_error(self, InvalidKeys, form_of, wrong)
            for function in (same_everywhere, parting_layout):
                assert_error(self, InvalidKeys, function, wrong, "a")
                assert_error(self, InvalidKeys, function, "a", wrong)

    def test_one_wrong_character_at_any_place(self):
        for wrong, error in (("X", InvalidKeys), ("<", HasMoves), (">", HasMoves)):
            for place in range(3):
                keys = "a-#"[:place] + wrong + "a-#"[place + 1:]
                assert_error(self, error, form_of, keys)
                for function in (same_everywhere, parting_layout):
                    assert_error(self, error, function, keys, "a-#")
                    assert_error(self, error, function, "a-#", keys)

    def test_moves(self):
        for keys in ("<", ">", "<>", "a<", "-" * 59 + ">"):
            assert_error(self, HasMoves, form_of, keys)

    def test_the_first_list_decides(self):
        for function in (same_everywhere, parting_layout):
            assert_error(self, HasMoves, function, "<", "A")
            assert_error(self, HasMoves, function, "<", None)
            assert_error(self, HasMoves, function, "<", "<")
            assert_error(self, InvalidKeys, function, "A", "<")
            assert_error(self, InvalidKeys, function, "A<", "<")
            assert_error(self, InvalidKeys, function, "a", "<A")
            assert_error(self, HasMoves, function, "a", "a<")

    def test_wrong_forms(self):
        for function in (keys_of, count_keys, joined):
            for wrong in NOT_FORMS + odd_values():
                assert_error(self, InvalidForm, function, wrong)
            for wrong in NOT_INTEGERS:
                for place in (0, 2, 3):
                    form = [1, "x", 1, 1]
                    form[place] = wrong
                    assert_error(self, InvalidForm, function, tuple(form))
            for wrong in NOT_STRINGS:
                assert_error(self, InvalidForm, function, (1, wrong, 1, 1))

    def test_any_form_of_several(self):
        right = (0, "x", 0, 0)
        for wrong in NOT_FORMS:
            for place in range(4):
                forms = [right] * 4
                forms[place] = wrong
                assert_error(self, InvalidForm, joined, *forms)

    def test_a_wrong_form_comes_before_too_long(self):
        for function in (keys_of, count_keys):
            assert_error(self, InvalidForm, function, (301, "", 0, 300))
            assert_error(self, InvalidForm, function, (301, "", 0, 302))
            assert_error(self, InvalidForm, function, (0, "X" * 301, 0, 0))
            assert_error(self, InvalidForm, function, [301, "", 0, 301])

    def test_wrong_arguments_stay_unchanged(self):
        form = [0, "x", 0, 0]
        assert_error(self, InvalidForm, joined, (0, "", 0, 0), form)
        self.assertIs(is_form(form), False)
        self.assertEqual(form, [0, "x", 0, 0])


if __name__ == "__main__":
    unittest.main()

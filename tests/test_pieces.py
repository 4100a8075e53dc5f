import unittest
from random import Random

from cursorkeys.errors import InvalidForm, InvalidIndex, InvalidLayout, InvalidRounds
from cursorkeys.forms import form_of, is_form, joined, keys_of
from cursorkeys.layouts import layout_after, merge_key, runs_of
from cursorkeys.pieces import gone_after, layout_by_form, pieces_after, rounds_layout
from cursorkeys.pressing import layout_of
from plain import MARKS, NOT_INTEGERS, NOT_STRINGS, NOT_TUPLES, all_keys, all_layouts
from plain import assert_error, odd_values, plain_press, plain_regions, some_form, some_keys, state_of

HUGE = 10 ** 39
LAYOUT = (2, (1, 3), 4)
FORM = (1, "x", 0, 1)
FUNCTIONS = (
    pieces_after,
    layout_by_form,
    lambda layout, form: rounds_layout(layout, form, 3),
    lambda layout, form: gone_after(layout, form, 0),
)
NOT_LAYOUTS = (
    (2, (1, 3)), (2, (1, 3), 4, 5), [2, (1, 3), 4], (2, [1, 3], 4), (2, 1, 4), (2, None, 4), (2, (0,), 4),
    (2, (1, 0), 4), (2, (-1, 3), 4), (-1, (1, 3), 4), (2, (1, 3), -1), (2, (1, True), 4), (2, ("1",), 4),
)
NOT_FORMS = ((1, "x", 0, 0), (1, "x", 0, 2), (0, "", 1, 0), (-1, "", 0, 0), (0, "X", 0, 0), [1, "x", 0, 1], (1, "x", 0))


def plain_pieces(layout, keys):
    """Return the pieces that are left of the regions of marks after pressing."""
    text, cursors = state_of(layout)
    edges = [0, *cursors, len(text)]
    pieces = []
    for at, left in plain_regions(layout, keys):
        region = text[edges[at]:edges[at + 1]]
        kept = [sign for sign in left if sign in MARKS]
        start = region.index(kept[0]) if kept else 0
        pieces.append((start, len(kept), left[len(kept):]))
        assert left[:len(kept)] == region[start:start + len(kept)]
    return pieces


def pieces_by_the_document(layout, form):
    """Return the pieces of a layout whose gaps are small enough to be cut as the document says."""
    b, word, a, depth = form
    before, gaps, behind = layout
    pieces = [(0, max(0, before - b), word)]
    for g in gaps:
        if g > depth:
            left = (MARKS[:g][:g - b] + word)[a:]
            kept = [sign for sign in left if sign in MARKS]
            pieces.append((MARKS.index(kept[0]) if kept else 0, len(kept), left[len(kept):]))
    rest = MARKS[:behind][min(a, behind):]
    pieces.append((MARKS.index(rest[0]) if rest else 0, len(rest), ""))
    return pieces


def some_layout(random, largest, most=6):
    gaps = tuple(random.randrange(1, largest) for _ in range(random.randrange(most)))
    return random.randrange(largest), gaps, random.randrange(largest)


def plain_rounds(layout, form, rounds):
    for _ in range(rounds):
        layout = layout_by_form(layout, form)
    return layout


def plain_gone_after(layout, form, index, most):
    """Return the round behind which a gap is gone, one round after another, or None."""
    alone = (0, (layout[1][index],), 0)
    for number in range(1, most + 1):
        alone = layout_by_form(alone, form)
        if not alone[1]:
            return number
    return None


class PiecesAfter(unittest.TestCase):
    def test_small_lists_on_small_rows_of_marks(self):
        layouts = [layout for size in range(7) for many in range(3) for layout in all_layouts(size, many)]
        for keys in all_keys(4, "a-#") + ["ab#", "ab##", "-ab#", "#-ab", "abc###", "-#ab#", "ab-c##"]:
            form = form_of(keys)
            for layout in layouts:
                expected = plain_pieces(layout, keys)
                if pieces_after(layout, form) != expected:
                    self.fail((layout, keys, pieces_after(layout, form), expected))

    def test_long_lists_on_rows_of_marks(self):
        random = Random(40)
        for _ in range(40):
            keys = some_keys(random, 60, "ab--##")
            layout = some_layout(random, 50)
            self.assertEqual(pieces_after(layout, form_of(keys)), plain_pieces(layout, keys), (layout, keys))

    def test_gaps_near_all_numbers_of_a_form(self):
        for form in (
            (3, "", 0, 3), (0, "", 3, 3), (3, "abcde", 4, 3), (3, "abcde", 4, 7), (0, "abcdefgh", 8, 0),
            (0, "abcdefgh", 8, 5), (5, "ab", 2, 5), (5, "ab", 2, 7), (0, "ab", 5, 3), (0, "ab", 5, 5),
            (1, "abc", 3, 1), (300, "x" * 300, 300, 300), (10, "x" * 300, 300, 17), (0, "x" * 300, 299, 298),
        ):
            b, word, a, depth = form
            self.assertIs(is_form(form), True)
            for near in (b, len(word), a, depth, a + b, a + b - len(word)):
                for gap in range(max(1, near - 1), near + 2):
                    for layout in ((near, (gap,), near), (gap, (gap, 1, gap), gap), (0, (), gap), (gap, (), 0)):
                        with self.subTest(form=form, layout=layout):
                            self.assertEqual(pieces_after(layout, form), pieces_by_the_document(layout, form))

    def test_large_numbers(self):
        word = "x" * 299 + "y"
        layout = (HUGE, (HUGE, HUGE + 1, 1, 2 * HUGE, 2 * HUGE + 1), 3 * HUGE)
        self.assertEqual(
            pieces_after(layout, (HUGE, word, HUGE, 2 * HUGE)),
            [(0, 0, word), (HUGE, 1, word), (HUGE, 2 * HUGE, "")],
        )
        self.assertEqual(
            pieces_after(layout, (HUGE, word, 300, HUGE)),
            [(0, 0, word), (0, 0, "y"), (300, HUGE - 300, word), (300, HUGE - 299, word), (300, 3 * HUGE - 300, "")],
        )
        self.assertEqual(
            pieces_after((HUGE - 1, (HUGE,), HUGE), (0, word, HUGE, HUGE - 1)),
            [(0, HUGE - 1, word), (0, 0, word), (0, 0, "")],
        )

    def test_every_list_is_new(self):
        first = pieces_after(LAYOUT, FORM)
        expected = list(first)
        first.clear()
        second = pieces_after(LAYOUT, FORM)
        self.assertEqual(second, expected)
        self.assertIsNot(second, pieces_after(LAYOUT, FORM))

    def test_by_name(self):
        self.assertEqual(pieces_after(form=FORM, layout=(0, (), 3)), [(0, 0, "x"), (0, 3, "")])


class LayoutByForm(unittest.TestCase):
    def test_small_lists_on_small_rows_of_marks(self):
        layouts = [layout for size in range(7) for many in range(4) for layout in all_layouts(size, many)]
        for keys in all_keys(3, "a-#") + ["aa##", "a##a", "-aa#"]:
            for layout in layouts:
                expected = layout_of_marks(layout, keys)
                if layout_by_form(layout, form_of(keys)) != expected:
                    self.fail((layout, keys, expected))

    def test_the_runs_of_the_keys_do_the_same(self):
        random = Random(41)
        for _ in range(400):
            form = some_form(random, 90, 90)
            layout = some_layout(random, 200)
            after = layout_after(layout, runs_of(keys_of(form)))
            self.assertEqual(layout_by_form(layout, form), after, (layout, form))

    def test_runs_with_large_counts_do_the_same(self):
        random = Random(42)
        for _ in range(300):
            form = some_form(random, HUGE * 10, 300)
            b, word, a, depth = form
            layout = some_layout(random, 3 * HUGE)
            runs = (("#", depth - b), ("-", b), ("x", len(word)), ("#", a + b - depth))
            self.assertEqual(layout_by_form(layout, form), layout_after(layout, runs), (layout, form))

    def test_the_pieces_have_these_sizes(self):
        random = Random(43)
        for digits in (1, 3, 40):
            for _ in range(100):
                form = some_form(random, 10 ** digits, 300)
                layout = some_layout(random, 3 * 10 ** digits)
                sizes = [length + len(typed) for _, length, typed in pieces_after(layout, form)]
                self.assertEqual(layout_by_form(layout, form), (sizes[0], tuple(sizes[1:-1]), sizes[-1]))

    def test_by_name(self):
        self.assertEqual(layout_by_form(form=FORM, layout=LAYOUT), (2, (3,), 4))


class RoundsLayout(unittest.TestCase):
    def test_one_round_after_another(self):
        random = Random(44)
        for _ in range(1500):
            form = some_form(random, 6, 8)
            layout = some_layout(random, 40)
            rounds = random.randrange(12)
            expected = plain_rounds(layout, form, rounds)
            self.assertEqual(rounds_layout(layout, form, rounds), expected, (layout, form, rounds))

    def test_pressed_keys_on_marks(self):
        random = Random(45)
        for _ in range(150):
            keys = some_keys(random, 8, "ab-#")
            layout = some_layout(random, 12)
            rounds = random.randrange(6)
            expected = layout_of_marks(layout, keys * rounds)
            self.assertEqual(rounds_layout(layout, form_of(keys), rounds), expected, (layout, keys, rounds))

    def test_rounds_as_one_form(self):
        random = Random(46)
        for _ in range(200):
            form = some_form(random, HUGE, 30)
            layout = some_layout(random, 30 * HUGE)
            rounds = random.randrange(1, 20)
            together = joined(*[form] * rounds)
            self.assertEqual(rounds_layout(layout, form, rounds), layout_by_form(layout, together))

    def test_no_rounds(self):
        for layout in (LAYOUT, (0, (), 0), (0, (1,), 0), (HUGE, (1, HUGE), HUGE)):
            for form in (FORM, (0, "", 0, 0), (HUGE, "xy", HUGE, 2 * HUGE)):
                self.assertEqual(rounds_layout(layout, form, 0), layout)

    def test_one_round(self):
        self.assertEqual(rounds_layout(LAYOUT, FORM, 1), layout_by_form(LAYOUT, FORM))

    def test_many_rounds(self):
        layout = (5, (5, HUGE), HUGE)
        for form, rounds, expected in (
            ((0, "", 0, 0), HUGE, layout),
            ((0, "xy", 0, 0), HUGE, (5 + 2 * HUGE, (5 + 2 * HUGE, 3 * HUGE), HUGE)),
            ((1, "", 0, 1), HUGE - 1, (0, (1,), HUGE)),
            ((1, "", 0, 1), HUGE, (0, (), HUGE)),
            ((0, "", 1, 1), HUGE - 1, (5, (1,), 1)),
            ((0, "", 1, 1), HUGE, (5, (), 0)),
            ((0, "", 1, 1), 10 * HUGE, (5, (), 0)),
            ((9, "xx", 0, 9), 1, (2, (HUGE - 7,), HUGE)),
            ((9, "xx", 0, 9), HUGE, (2, (), HUGE)),
            ((9, "x" * 10, 0, 9), HUGE, (9 + HUGE, (2 * HUGE,), HUGE)),
            ((9, "x" * 10, 0, 9), 2, (11, (HUGE + 2,), HUGE)),
            ((3, "xxx", 0, 3), HUGE, (5, (5, HUGE), HUGE)),
            ((6, "x" * 6, 0, 6), HUGE, (6, (HUGE,), HUGE)),
            ((0, "x", 1, 0), HUGE, (5 + HUGE, (5, HUGE), 0)),
            ((0, "x", 1, 1), HUGE - 7, (HUGE - 2, (5, HUGE), 7)),
        ):
            with self.subTest(form=form, rounds=rounds):
                self.assertEqual(rounds_layout(layout, form, rounds), expected)

    def test_rounds_cut_in_two(self):
        random = Random(47)
        for digits in (1, 2, 20, 39):
            for _ in range(150):
                form = some_form(random, random.choice((4, 300, 10 ** digits)), 300)
                layout = some_layout(random, 10 ** 40)
                first = random.randrange(10 ** digits)
                second = random.randrange(10 ** digits)
                middle = rounds_layout(layout, form, first)
                expected = rounds_layout(layout, form, first + second)
                self.assertEqual(rounds_layout(middle, form, second), expected)

    def test_by_name(self):
        self.assertEqual(rounds_layout(rounds=2, form=FORM, layout=LAYOUT), (2, (3,), 4))


class GoneAfter(unittest.TestCase):
    def test_one_round_after_another(self):
        random = Random(48)
        never = 0
        for _ in range(1500):
            form = some_form(random, 6, 8)
            layout = some_layout(random, 40)
            for index in range(len(layout[1])):
                expected = plain_gone_after(layout, form, index, 50)
                never += expected is None
                self.assertEqual(gone_after(layout, form, index), expected, (layout, form, index))
        self.assertGreater(never, 100)

    def test_merge_keys_on_layouts(self):
        random = Random(49)
        for _ in range(300):
            keys = some_keys(random, 9, "a-#")
            layout = some_layout(random, 12)
            for index in range(len(layout[1])):
                key = merge_key(layout, runs_of(keys * 13), index)
                expected = None if key is None else (key - 1) // len(keys) + 1
                self.assertEqual(gone_after(layout, form_of(keys), index), expected, (layout, keys, index))

    def test_the_gap_is_there_until_this_round(self):
        random = Random(50)
        for _ in range(300):
            form = some_form(random, random.choice((4, 300, 10 ** 20)), 300)
            gap = random.randrange(1, 10 ** 40)
            number = gone_after((0, (gap,), 0), form, 0)
            if number is None:
                self.assertEqual(len(rounds_layout((0, (gap,), 0), form, 10 ** 60)[1]), 1)
            else:
                self.assertEqual(len(rounds_layout((0, (gap,), 0), form, number - 1)[1]), 1)
                self.assertEqual(rounds_layout((0, (gap,), 0), form, number)[1], ())

    def test_numbers_of_rounds(self):
        for gap, form, expected in (
            (1, (1, "", 0, 1), 1), (2, (1, "", 0, 1), 2),
            (HUGE, (1, "", 0, 1), HUGE), (HUGE, (0, "", 3, 3), HUGE // 3 + 1),
            (HUGE - 1, (0, "", 3, 3), HUGE // 3), (3, (3, "xxx", 0, 3), 1), (4, (3, "xxx", 0, 3), None),
            (3, (3, "xxxx", 0, 3), 1), (4, (3, "xxxx", 0, 3), None),
            (1, (0, "", 0, 0), None), (HUGE, (0, "x", 0, 0), None),
            (1, (0, "x", 1, 0), None), (1, (0, "x", 1, 1), 1), (2, (0, "x", 1, 1), None), (3, (0, "x", 2, 1), 3),
            (3, (0, "x", 2, 2), 2), (HUGE, (HUGE, "x", 0, HUGE), 1), (HUGE + 1, (HUGE, "x", 0, HUGE), 2),
            (2 * HUGE - 1, (HUGE, "x", 0, HUGE), 2), (2 * HUGE, (HUGE, "x", 0, HUGE), 3),
        ):
            with self.subTest(gap=gap, form=form):
                self.assertEqual(gone_after((0, (gap,), 0), form, 0), expected)
                self.assertEqual(gone_after((HUGE, (1, gap, HUGE), 7), form, 1), expected)

    def test_by_name(self):
        self.assertEqual(gone_after(index=1, form=(2, "x", 0, 2), layout=(0, (5, 9), 2)), 8)


def layout_of_marks(layout, keys):
    text, cursors = plain_press(*state_of(layout), keys)
    return layout_of("x" * len(text), cursors)


class WrongArguments(unittest.TestCase):
    def test_wrong_layouts(self):
        for function in FUNCTIONS:
            for wrong in NOT_LAYOUTS + NOT_TUPLES + odd_values():
                assert_error(self, InvalidLayout, function, wrong, FORM)

    def test_one_wrong_number_in_a_layout(self):
        for function in FUNCTIONS:
            for wrong in NOT_INTEGERS + (-1,):
                assert_error(self, InvalidLayout, function, (wrong, (1, 3), 4), FORM)
                assert_error(self, InvalidLayout, function, (2, (1, 3), wrong), FORM)
                assert_error(self, InvalidLayout, function, (2, (wrong, 3), 4), FORM)
                assert_error(self, InvalidLayout, function, (2, (1, wrong), 4), FORM)

    def test_wrong_forms(self):
        for function in FUNCTIONS:
            for wrong in NOT_FORMS + odd_values():
                assert_error(self, InvalidForm, function, LAYOUT, wrong)

    def test_one_wrong_item_in_a_form(self):
        for function in FUNCTIONS:
            for wrong in NOT_INTEGERS:
                assert_error(self, InvalidForm, function, LAYOUT, (wrong, "x", 1, 1))
                assert_error(self, InvalidForm, function, LAYOUT, (1, "x", wrong, 1))
                assert_error(self, InvalidForm, function, LAYOUT, (1, "x", 1, wrong))
            for wrong in NOT_STRINGS:
                assert_error(self, InvalidForm, function, LAYOUT, (1, wrong, 1, 1))

    def test_wrong_rounds(self):
        for wrong in NOT_INTEGERS + (-1, -HUGE):
            assert_error(self, InvalidRounds, rounds_layout, LAYOUT, FORM, wrong)

    def test_wrong_indexes(self):
        for wrong in NOT_INTEGERS + (-1, 2, 3, HUGE):
            assert_error(self, InvalidIndex, gone_after, LAYOUT, FORM, wrong)
        assert_error(self, InvalidIndex, gone_after, (2, (), 4), FORM, 0)

    def test_the_first_parameter_decides(self):
        for function in (pieces_after, layout_by_form):
            assert_error(self, InvalidLayout, function, None, None)
        for function, error in ((rounds_layout, InvalidRounds), (gone_after, InvalidIndex)):
            assert_error(self, InvalidLayout, function, None, None, None)
            assert_error(self, InvalidLayout, function, None, FORM, None)
            assert_error(self, InvalidForm, function, LAYOUT, None, None)
            assert_error(self, error, function, LAYOUT, FORM, None)

    def test_wrong_arguments_stay_unchanged(self):
        layout = [2, [1, 3], 4]
        form = [1, "x", 0, 1]
        assert_error(self, InvalidLayout, pieces_after, layout, form)
        assert_error(self, InvalidForm, pieces_after, LAYOUT, form)
        self.assertEqual((layout, form), ([2, [1, 3], 4], [1, "x", 0, 1]))


if __name__ == "__main__":
    unittest.main()

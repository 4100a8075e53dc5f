import unittest
from random import Random

from cursorkeys.errors import InvalidIndex, InvalidKeys, InvalidLayout, InvalidRuns
from cursorkeys.layouts import cursors_after, layout_after, merge_key, runs_of
from cursorkeys.pressing import layout_of, pressed
from plain import NOT_INTEGERS, NOT_STRINGS, NOT_TUPLES, all_cursors, all_keys
from plain import assert_error, plain_press, plain_tracks, some_keys, some_state

LAYOUT = (1, (2, 3), 4)
RUNS = (("-", 1), ("x", 2))
RUN_FUNCTIONS = (layout_after, lambda layout, runs: merge_key(layout, runs, 0), cursors_after)


def plain_merge_key(tracks, index):
    """Return the first key behind which two neighbouring cursors share a place."""
    for number, places in enumerate(tracks):
        if places[index] == places[index + 1]:
            return number
    return None


def plain_cursors_after(tracks):
    """Return the index that each cursor has among the cursors at the end."""
    distinct = sorted(set(tracks[-1]))
    return [distinct.index(place) for place in tracks[-1]]


def single_runs(keys):
    """Return runs of one key each, with runs of count 0 between them."""
    runs = []
    for key in keys:
        runs.extend([("#", 0), (key, 1), ("<", 0)])
    return tuple(runs)


def some_layout(random, largest):
    gaps = tuple(random.randrange(1, largest) for _ in range(random.randrange(6)))
    return random.randrange(largest), gaps, random.randrange(largest)


def some_runs(random, largest):
    return tuple(
        (random.choice("ax-#<>"), random.randrange(largest)) for _ in range(random.randrange(7))
    )


def times(layout, factor):
    before, gaps, behind = layout
    return before * factor, tuple(gap * factor for gap in gaps), behind * factor


class AgainstPressedTexts(unittest.TestCase):
    def check(self, text, cursors, keys):
        layout = layout_of(text, cursors)
        tracks = plain_tracks(text, cursors, keys)
        told = (text, cursors, keys)
        for runs in (runs_of(keys), single_runs(keys)):
            self.assertEqual(layout_after(layout, runs), layout_of(*plain_press(*told)), told)
            self.assertEqual(cursors_after(layout, runs), plain_cursors_after(tracks), told)
            for index in range(len(cursors) - 1):
                merged = plain_merge_key(tracks, index)
                self.assertEqual(merge_key(layout, runs, index), merged, told)

    def test_all_small_layouts_and_key_lists(self):
        for length in range(5):
            for cursors in all_cursors(length):
                for keys in all_keys(3):
                    self.check("abcd"[:length], cursors, keys)

    def test_longer_key_lists(self):
        random = Random(3)
        for _ in range(1500):
            text, cursors = some_state(random, 14)
            self.check(text, cursors, some_keys(random, 16))

    def test_pressed_of_the_package(self):
        random = Random(4)
        for _ in range(200):
            text, cursors = some_state(random, 40)
            keys = some_keys(random, 60)
            after = layout_of(*pressed(text, cursors, keys))
            self.assertEqual(layout_after(layout_of(text, cursors), runs_of(keys)), after)


class LayoutAfter(unittest.TestCase):
    def test_single_runs(self):
        for run, expected in (
            (("x", 5), (6, (7, 8), 4)),
            (("-", 2), (0, (1,), 4)),
            (("-", 1), (0, (1, 2), 4)),
            (("#", 2), (1, (1,), 2)),
            (("#", 9), (1, (), 0)),
            (("<", 1), (0, (2, 3), 5)),
            (("<", 2), (0, (1, 3), 6)),
            (("<", 3), (0, (3,), 7)),
            (("<", 5), (0, (1,), 9)),
            (("<", 6), (0, (), 10)),
            (("<", 7), (0, (), 10)),
            ((">", 4), (5, (2, 3), 0)),
            ((">", 5), (6, (2, 2), 0)),
            ((">", 7), (8, (2,), 0)),
            ((">", 9), (10, (), 0)),
            ((">", 99), (10, (), 0)),
        ):
            with self.subTest(run):
                self.assertEqual(layout_after(LAYOUT, (run,)), expected)

    def test_no_runs_and_runs_with_count_0(self):
        for layout in (LAYOUT, (0, (), 0), (0, (1,), 0)):
            self.assertEqual(layout_after(layout, ()), layout)
            for key in "x-#<>":
                self.assertEqual(layout_after(layout, ((key, 0),)), layout)

    def test_no_gaps(self):
        for key, expected in (
            ("x", (5, (), 3)), ("-", (0, (), 3)), ("#", (2, (), 0)), ("<", (0, (), 5)), (">", (5, (), 0)),
        ):
            self.assertEqual(layout_after((2, (), 3), ((key, 3),)), expected)

    def test_a_gap_that_is_gone_does_not_come_back(self):
        self.assertEqual(layout_after((0, (1, 4), 0), (("-", 1), ("x", 9))), (9, (12,), 0))

    def test_the_letter_does_not_matter(self):
        expected = layout_after(LAYOUT, (("x", 3), ("-", 4), ("x", 1)))
        for letter in "abcdefghijklmnopqrstuvwxyz":
            self.assertEqual(layout_after(LAYOUT, ((letter, 3), ("-", 4), (letter, 1))), expected)

    def test_by_name(self):
        self.assertEqual(layout_after(runs=(("x", 1),), layout=(0, (), 0)), (1, (), 0))


class LargeNumbers(unittest.TestCase):
    def test_runs_cut_in_two(self):
        random = Random(5)
        for digits in (1, 2, 31, 36, 40):
            for _ in range(120):
                layout = some_layout(random, 10 ** digits)
                runs = some_runs(random, 10 ** digits)
                for at, (key, count) in enumerate(runs):
                    for part in (0, 1, count // 2, random.randrange(count + 1)):
                        first = runs[:at] + ((key, min(part, count)),)
                        second = ((key, count - min(part, count)),) + runs[at + 1:]
                        self.check_cut(layout, runs, first, second)

    def check_cut(self, layout, runs, first, second):
        middle = layout_after(layout, first)
        self.assertEqual(layout_after(middle, second), layout_after(layout, runs))
        self.assertEqual(layout_after(layout, first + second), layout_after(layout, runs))
        early = cursors_after(layout, first)
        late = cursors_after(middle, second)
        self.assertEqual([late[at] for at in early], cursors_after(layout, runs))
        pressed_before = sum(count for _, count in first)
        for index in range(len(layout[1])):
            number = merge_key(layout, runs, index)
            self.assertEqual(merge_key(layout, first + second, index), number)
            if early[index] == early[index + 1]:
                self.assertEqual(merge_key(layout, first, index), number)
            else:
                self.assertIsNone(merge_key(layout, first, index))
                rest = merge_key(middle, second, early[index])
                self.assertEqual(number, None if rest is None else pressed_before + rest)

    def test_all_numbers_times_a_large_one(self):
        random = Random(6)
        for factor in (10 ** 30, 10 ** 38 + 7):
            for _ in range(300):
                layout = some_layout(random, 9)
                runs = some_runs(random, 9)
                many = tuple((key, count * factor) for key, count in runs)
                large = times(layout, factor)
                self.assertEqual(layout_after(large, many), times(layout_after(layout, runs), factor))
                self.assertEqual(cursors_after(large, many), cursors_after(layout, runs))
                for index in range(len(layout[1])):
                    number = merge_key(layout, runs, index)
                    expected = None if number is None else number * factor
                    self.assertEqual(merge_key(large, many, index), expected)

    def test_one_key_more_or_less(self):
        for size in (10 ** 30, 10 ** 39, 10 ** 40 - 1):
            for key, layout in (
                ("-", (5, (size,), 5)), ("#", (5, (size,), 5)),
                ("<", (0, (size,), 5)), (">", (5, (size,), 0)),
            ):
                with self.subTest(size=size, key=key):
                    self.assertEqual(layout_after(layout, ((key, size - 1),))[1], (1,))
                    self.assertEqual(layout_after(layout, ((key, size),))[1], ())
                    self.assertIsNone(merge_key(layout, ((key, size - 1),), 0))
                    self.assertEqual(merge_key(layout, ((key, size),), 0), size)
                    # With 7 letters first, "<" has 7 more characters to go to the end.
                    number = size + 21 if key == "<" else size + 14
                    self.assertEqual(merge_key(layout, (("x", 7), (key, size + 14)), 0), number)

    def test_ends_far_away(self):
        self.assertEqual(
            layout_after((10 ** 40, (1, 10 ** 35), 3), (("<", 10 ** 39), ("x", 10 ** 31))),
            (9 * 10 ** 39 + 10 ** 31, (1 + 10 ** 31, 10 ** 35 + 10 ** 31), 3 + 10 ** 39),
        )
        self.assertEqual(
            layout_after((2, (10 ** 30, 10 ** 31), 10 ** 32), ((">", 10 ** 40), ("-", 1))),
            (10 ** 30 + 10 ** 31 + 10 ** 32 + 1, (), 0),
        )

    def test_the_most_gaps_and_runs(self):
        layout = (10 ** 39, tuple(10 ** 39 + k for k in range(80)), 10 ** 39)
        runs = tuple(("x-#<>"[k % 5], 10 ** 39 + k) for k in range(80))
        after = layout_after(layout, runs)
        self.assertEqual(layout_after(layout_after(layout, runs[:40]), runs[40:]), after)
        found = cursors_after(layout, runs)
        self.assertEqual(found[-1], len(after[1]))
        for index in range(80):
            gone = merge_key(layout, runs, index) is not None
            self.assertEqual(gone, found[index] == found[index + 1])


class MergeKey(unittest.TestCase):
    def test_the_number_counts_over_all_runs(self):
        runs = (("x", 3), ("<", 0), ("-", 2), (">", 1), ("#", 4))
        self.assertEqual(merge_key((9, (1, 2, 3, 4), 9), runs, 0), 8)
        self.assertEqual(merge_key((9, (1, 2, 3, 4), 9), runs, 1), 9)
        self.assertEqual(merge_key((9, (1, 2, 3, 4), 9), runs, 2), 10)
        self.assertIsNone(merge_key((9, (1, 2, 3, 4), 9), runs, 3))

    def test_moves_at_the_ends(self):
        self.assertEqual([merge_key(LAYOUT, (("<", 9),), at) for at in (0, 1)], [3, 6])
        self.assertEqual([merge_key(LAYOUT, ((">", 9),), at) for at in (0, 1)], [9, 7])
        self.assertIsNone(merge_key(LAYOUT, (("<", 2),), 0))
        self.assertIsNone(merge_key(LAYOUT, ((">", 6),), 1))

    def test_never_gone(self):
        self.assertIsNone(merge_key(LAYOUT, (), 0))
        self.assertIsNone(merge_key(LAYOUT, (("-", 0),), 0))
        self.assertIsNone(merge_key(LAYOUT, (("x", 10 ** 40),), 1))

    def test_an_index_of_the_first_layout(self):
        self.assertEqual(merge_key((0, (1, 5), 0), (("-", 1), ("-", 4)), 1), 5)

    def test_by_name(self):
        self.assertEqual(merge_key(index=0, runs=(("-", 2),), layout=LAYOUT), 2)


class CursorsAfter(unittest.TestCase):
    def test_cursors(self):
        for layout, runs, expected in (
            ((0, (), 0), (), [0]),
            ((0, (), 0), (("x", 3),), [0]),
            (LAYOUT, (), [0, 1, 2]),
            (LAYOUT, (("-", 2),), [0, 0, 1]),
            (LAYOUT, (("#", 3),), [0, 0, 0]),
            (LAYOUT, ((">", 7),), [0, 1, 1]),
            ((1, (1, 2, 1, 3), 1), (("-", 1),), [0, 0, 1, 1, 2]),
        ):
            with self.subTest(layout=layout, runs=runs):
                self.assertEqual(cursors_after(layout, runs), expected)

    def test_the_list_is_new(self):
        first = cursors_after(LAYOUT, RUNS)
        second = cursors_after(LAYOUT, RUNS)
        self.assertIsNot(first, second)
        first.append(9)
        first[0] = 7
        self.assertEqual(second, [0, 1, 2])
        self.assertEqual(cursors_after(LAYOUT, RUNS), [0, 1, 2])

    def test_by_name(self):
        self.assertEqual(cursors_after(runs=(), layout=(0, (1,), 0)), [0, 1])


class RunsOf(unittest.TestCase):
    def test_runs(self):
        for keys, expected in (
            ("", ()),
            ("q", (("x", 1),)),
            ("axz", (("x", 3),)),
            ("a-b", (("x", 1), ("-", 1), ("x", 1))),
            ("--##<<>>", (("-", 2), ("#", 2), ("<", 2), (">", 2))),
            ("<><", (("<", 1), (">", 1), ("<", 1))),
            ("x" * 1000, (("x", 1000),)),
        ):
            with self.subTest(keys):
                self.assertEqual(runs_of(keys), expected)

    def test_runs_say_the_keys_and_are_as_few_as_possible(self):
        random = Random(7)
        for _ in range(200):
            keys = some_keys(random, 60)
            runs = runs_of(keys)
            plain = "".join("x" if key.isalpha() else key for key in keys)
            self.assertEqual("".join(key * count for key, count in runs), plain)
            for at in range(len(runs) - 1):
                self.assertNotEqual(runs[at][0], runs[at + 1][0])
            self.assertTrue(all(count > 0 for _, count in runs))

    def test_by_name(self):
        self.assertEqual(runs_of(keys="--"), (("-", 2),))


class Arguments(unittest.TestCase):
    def test_arguments_stay_unchanged(self):
        layout = (10 ** 30, (1, 2, 10 ** 31), 3)
        runs = (("-", 1), ("x", 10 ** 30), ("<", 10 ** 32))
        told = repr((layout, runs))
        layout_after(layout, runs)
        cursors_after(layout, runs)
        merge_key(layout, runs, 2)
        self.assertEqual(repr((layout, runs)), told)

    def test_wrong_arguments_stay_unchanged(self):
        layout = [1, [2, 3], 4]
        runs = [["-", 1], ["x", 2]]
        for function in RUN_FUNCTIONS:
            assert_error(self, InvalidLayout, function, layout, runs)
            assert_error(self, InvalidRuns, function, LAYOUT, runs)
        self.assertEqual(layout, [1, [2, 3], 4])
        self.assertEqual(runs, [["-", 1], ["x", 2]])

    def test_calls_again_give_the_same(self):
        for _ in range(3):
            self.assertEqual(layout_after(LAYOUT, RUNS), (2, (3, 4), 4))
            self.assertEqual(merge_key(LAYOUT, (("-", 3),), 1), 3)
            self.assertEqual(cursors_after(LAYOUT, RUNS), [0, 1, 2])


class WrongArguments(unittest.TestCase):
    def test_layouts_of_other_kinds(self):
        for function in RUN_FUNCTIONS:
            for value in NOT_TUPLES + ((), (1,), (1, (2,)), (1, (2,), 3, 4), [1, (2, 3), 4]):
                assert_error(self, InvalidLayout, function, value, RUNS)

    def test_one_wrong_number_in_a_layout(self):
        for function in RUN_FUNCTIONS:
            for wrong in NOT_INTEGERS + (-1, -10 ** 40):
                assert_error(self, InvalidLayout, function, (wrong, (2, 3), 4), RUNS)
                assert_error(self, InvalidLayout, function, (1, (2, 3), wrong), RUNS)
            for wrong in NOT_INTEGERS + (0, -1):
                for place in range(3):
                    gaps = [1, 2, 3]
                    gaps[place] = wrong
                    assert_error(self, InvalidLayout, function, (1, tuple(gaps), 4), RUNS)
            for wrong in NOT_TUPLES:
                assert_error(self, InvalidLayout, function, (1, wrong, 4), RUNS)

    def test_runs_of_other_kinds(self):
        for function in RUN_FUNCTIONS:
            for value in NOT_TUPLES + (("-", 1), [("-", 1)], ("-",)):
                assert_error(self, InvalidRuns, function, LAYOUT, value)

    def test_one_wrong_run_at_any_place(self):
        wrong_runs = [(), ("-",), ("-", 1, 1), ["-", 1], "-1", None, 5, (1, "-")]
        wrong_runs += [(key, 1) for key in NOT_STRINGS]
        wrong_runs += [(key, 1) for key in ("", "ab", "--", "A", "1", " ", "|", "\u00e9")]
        wrong_runs += [("-", count) for count in NOT_INTEGERS + (-1, -10 ** 40)]
        for function in RUN_FUNCTIONS:
            for wrong in wrong_runs:
                for place in range(3):
                    runs = [("x", 1), ("-", 0), (">", 2)]
                    runs[place] = wrong
                    assert_error(self, InvalidRuns, function, LAYOUT, tuple(runs))

    def test_wrong_indexes(self):
        for wrong in NOT_INTEGERS + (-1, 2, 10 ** 40):
            assert_error(self, InvalidIndex, merge_key, LAYOUT, RUNS, wrong)
        assert_error(self, InvalidIndex, merge_key, (0, (), 5), RUNS, 0)
        merge_key(LAYOUT, RUNS, 1)

    def test_the_index_is_one_of_the_first_layout(self):
        self.assertEqual(merge_key((0, (1, 1), 0), (("-", 1),), 1), 1)

    def test_wrong_keys(self):
        for wrong in NOT_STRINGS + ("A", "a1", "ab|"):
            assert_error(self, InvalidKeys, runs_of, wrong)

    def test_the_first_parameter_decides(self):
        for function in (layout_after, cursors_after):
            assert_error(self, InvalidLayout, function, None, None)
        assert_error(self, InvalidLayout, merge_key, (1, (0,), 1), (("A", 1),), -1)
        assert_error(self, InvalidLayout, merge_key, (1, (1,), True), (), -1)
        assert_error(self, InvalidRuns, merge_key, (1, (1,), 1), (("A", 1),), -1)
        assert_error(self, InvalidIndex, merge_key, (1, (1,), 1), (("a", 1),), -1)


if __name__ == "__main__":
    unittest.main()

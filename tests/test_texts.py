import unittest
from random import Random

from cursorkeys.errors import InvalidCursors, InvalidRuns, InvalidState, InvalidText
from cursorkeys.keylists import Keys
from cursorkeys.layouts import runs_of
from cursorkeys.texts import format_runs, format_state, parse_runs, parse_state
from plain import NOT_INTEGERS, NOT_STRINGS, NOT_TUPLES, Odd, all_cursors, all_keys, assert_error
from plain import odd_values, some_keys, some_state

STATES = (
    ("|", "", (0,)),
    ("|a", "a", (0,)),
    ("a|", "a", (1,)),
    ("|a|", "a", (0, 1)),
    ("a|bc|", "abc", (1, 3)),
    ("|abc|", "abc", (0, 3)),
    ("|a|b|c|", "abc", (0, 1, 2, 3)),
    ("aB|Zz", "aBZz", (2,)),
    ("xx|xx", "xxxx", (2,)),
)
RUNS = (
    ("", ()),
    ("-x12 ax3", (("-", 12), ("a", 3))),
    ("-x12", (("-", 12),)),
    ("xx1", (("x", 1),)),
    ("xx0", (("x", 0),)),
    ("<x1 >x10 #x100 -x0 zx9", (("<", 1), (">", 10), ("#", 100), ("-", 0), ("z", 9))),
    ("ax1 ax1 bx1", (("a", 1), ("a", 1), ("b", 1))),
    ("ax" + "9" * 40, (("a", 10 ** 40 - 1),)),
    ("ax1" + "0" * 39 + " xx1" + "2" * 39, (("a", 10 ** 39), ("x", int("1" + "2" * 39)))),
)
NOT_STATES = (
    "", "a", "abc", "||", "a||b", "|||", "||a", "a||", "a|b||", "a|b c", " |", "| ", "a|1", "a|-", "a|#", "a|<b",
    "a|\n", "\n|", "a|_", "a|@b", "a|[", "a|`", "a|{", "a|}", "a|~", "a|\u00e9", "a|\u0430", "a\u2502b", "a|\ud800",
    "a/b", "a\\b", "'a|'", "a|,", "ax3|a",
)
NOT_RUNS = (
    " ", "  ", " ax3", "ax3 ", "ax3  ax3", "ax3\tax3", "ax3\nax3", "ax3\n", "\nax3", "ax3,ax3", "ax3;", "ax3|", "|",
    "a", "ax", "x", "xx", "x3", "x12", "3", "ax ", "ax 3", "a x3", "a3", "a*3", "aX3", "a-3", "ay3", "axx3", "aax3",
    "Ax3", "|x3", "1x3", " x3", "+x3", "_x3", "%x3", "\u00e9x3", "\u0430x3",
    "ax03", "ax00", "ax01", "ax000000", "ax-3", "ax+3", "ax-0", "ax+0", "ax1-", "ax--3", "ax3.0", "ax3.", "ax.3",
    "ax1e3", "ax1_000", "ax_1", "ax1,0", "ax0x1", "ax0b1", "axa", "ax1a", "axa1", "ax3x3", "ax\u0663", "ax\uff13",
    "ax\u00b2", "ax1\u00b2", "ax1\u0663", "ax\u0967\u0968", "axNone", "ax1 b", "ax1 bx", "ax1 bx02", "ax1 bx2 ",
    "ax1bx2", "(('a', 3),)", "''", "ax3\u00a0ax3", "ax3\u2003ax3", "ax\x003", "ax3\ud800",
)


def run_text(runs):
    """Return runs as the document writes them, piece by piece."""
    text = ""
    for key, count in runs:
        text = text + (" " if text else "") + key + "x" + str(count)
    return text


def state_text(text, cursors):
    """Return a state as the document writes it, sign by sign."""
    out = ""
    for at in range(len(text) + 1):
        out = out + ("|" if at in cursors else "") + text[at:at + 1]
    return out


class States(unittest.TestCase):
    def test_states_written_by_hand(self):
        for written, text, cursors in STATES:
            with self.subTest(written):
                self.assertEqual(format_state(text, cursors), written)
                self.assertEqual(parse_state(written), (text, cursors))

    def test_all_cursors_of_small_texts(self):
        for length in range(7):
            text = "aBcDeF"[:length]
            for cursors in all_cursors(length):
                written = state_text(text, cursors)
                self.assertEqual(format_state(text, cursors), written)
                self.assertEqual(parse_state(written), (text, cursors))

    def test_some_states(self):
        random = Random(70)
        for _ in range(300):
            text, cursors = some_state(random, 60)
            written = state_text(text, cursors)
            self.assertEqual(format_state(text, cursors), written)
            self.assertEqual(parse_state(written), (text, cursors))

    def test_a_text_of_300_characters(self):
        text, cursors = "abC" * 100, (0, *range(7, 290, 16), 300)
        self.assertEqual(len(cursors), 20)
        self.assertEqual(format_state(text, cursors), state_text(text, cursors))
        self.assertEqual(parse_state(state_text(text, cursors)), (text, cursors))

    def test_texts_of_2000_characters(self):
        self.assertEqual(parse_state("a|" * 1000), ("a" * 1000, tuple(range(1, 1001))))
        self.assertEqual(format_state("a" * 1000, tuple(range(1, 1001))), "a|" * 1000)
        self.assertEqual(parse_state("|" + "zY" * 999 + "|"), ("zY" * 999, (0, 1998)))
        for wrong in ("a" * 2000, "a|" * 999 + "||", "a|" * 999 + "| ", "|" * 2000, "1" * 2000):
            assert_error(self, InvalidState, parse_state, wrong)

    def test_values_that_are_no_written_state(self):
        for value in NOT_STATES + NOT_STRINGS + odd_values() + (["a|"], ("a", (1,)), b"a|", Keys("a"), Odd()):
            assert_error(self, InvalidState, parse_state, value)

    def test_one_wrong_character_at_any_place(self):
        for wrong in "0 -#<>\n_%\u00e9":
            for place in range(6):
                word = "ab|cD|"
                assert_error(self, InvalidState, parse_state, word[:place] + wrong + word[place:])

    def test_short_texts_of_letters_and_signs(self):
        for word in all_keys(6, "a|"):
            if "|" in word and "||" not in word:
                self.assertEqual(state_text(*parse_state(word)), word)
            else:
                assert_error(self, InvalidState, parse_state, word)

    def test_wrong_states_to_write(self):
        for value in NOT_STRINGS + ("a1", "a|b", "-", " ", "\u00e9", Odd()):
            assert_error(self, InvalidText, format_state, value, (0,))
            assert_error(self, InvalidText, format_state, value, None)
        for value in NOT_TUPLES + ((), (-1,), (4,), (1, 1), (2, 1), (0, 1, 1), (10 ** 40,), Odd()):
            assert_error(self, InvalidCursors, format_state, "abc", value)
        for wrong in NOT_INTEGERS:
            for place in range(3):
                cursors = (0, 1, 2)
                cursors = cursors[:place] + (wrong,) + cursors[place + 1:]
                assert_error(self, InvalidCursors, format_state, "abc", cursors)

    def test_by_name(self):
        self.assertEqual(format_state(cursors=(1, 3), text="abc"), "a|bc|")
        self.assertEqual(parse_state(text="a|bc|"), ("abc", (1, 3)))


class Runs(unittest.TestCase):
    def test_runs_written_by_hand(self):
        for written, runs in RUNS:
            with self.subTest(written):
                self.assertEqual(format_runs(runs), written)
                self.assertEqual(parse_runs(written), runs)

    def test_every_key_with_small_counts(self):
        for key in "abcdefghijklmnopqrstuvwxyz-#<>":
            for count in range(25):
                self.assertEqual(format_runs(((key, count),)), f"{key}x{count}")
                self.assertEqual(parse_runs(f"{key}x{count}"), ((key, count),))

    def test_some_runs(self):
        random = Random(71)
        for _ in range(300):
            runs = tuple(
                (random.choice("axz-#<>"), random.randrange(10 ** random.randrange(41)))
                for _ in range(random.randrange(8))
            )
            self.assertEqual(format_runs(runs), run_text(runs))
            self.assertEqual(parse_runs(run_text(runs)), runs)

    def test_counts_are_integers(self):
        for key, count in parse_runs("ax0 bx1 -x12"):
            self.assertIs(key.__class__, str)
            self.assertIs(count.__class__, int)

    def test_runs_of_key_lists(self):
        random = Random(72)
        for _ in range(200):
            runs = runs_of(some_keys(random, 60))
            self.assertEqual(parse_runs(format_runs(runs)), runs)

    def test_80_runs_with_40_digits(self):
        runs = tuple(("-#<>x"[k % 5], 10 ** 39 + k) for k in range(80))
        self.assertEqual(format_runs(runs), run_text(runs))
        self.assertEqual(parse_runs(run_text(runs)), runs)

    def test_texts_of_2000_characters(self):
        self.assertEqual(parse_runs("ax1 " * 499 + "-x10"), (("a", 1),) * 499 + (("-", 10),))
        self.assertEqual(len("ax1 " * 499 + "-x10"), 2000)
        digits = "1" + "0" * 1997
        runs = (("a", 10 ** 1997),)
        self.assertEqual(parse_runs("ax" + digits), runs)
        self.assertEqual(format_runs(runs), "ax" + digits)
        for wrong in ("ax1 " * 500, "ax0" + "1" * 1997, "ax" + "1" * 1997 + "a", " " * 2000, "x" * 2000):
            assert_error(self, InvalidRuns, parse_runs, wrong)

    def test_more_digits_than_python_converts(self):
        # Python converts up to 4300 digits, or fewer where it is told so.
        runs = (("a", 10 ** 5000 + 1), ("-", 10 ** 4999))
        written = "ax1" + "0" * 4999 + "1 -x1" + "0" * 4999
        self.assertEqual(parse_runs(written), runs)
        self.assertEqual(format_runs(runs), written)
        for more in (" ", "?", " ?", " bx", " bx01", " bx" + "1" * 5000 + "a", "\u0663"):
            assert_error(self, InvalidRuns, parse_runs, written + more)

    def test_values_that_are_no_written_runs(self):
        strings_that_are_no_runs = tuple(value for value in odd_values() if not isinstance(value, str) or value)
        for value in NOT_RUNS + NOT_STRINGS + strings_that_are_no_runs + ((("a", 3),), ["ax3"], b"ax3", Keys("a"), Odd()):
            assert_error(self, InvalidRuns, parse_runs, value)

    def test_one_wrong_character_at_any_place(self):
        for wrong in "|A+_\n\u00e9\u0663":
            for place in range(9):
                word = "-x12 ax30"
                assert_error(self, InvalidRuns, parse_runs, word[:place] + wrong + word[place:])
                assert_error(self, InvalidRuns, parse_runs, word[:place] + wrong + word[place + 1:])

    def test_short_texts_of_some_signs(self):
        read = 0
        for word in all_keys(6, "ax01 "):
            try:
                runs = parse_runs(word)
            except InvalidRuns:
                continue
            read += 1
            self.assertEqual(run_text(runs), word)
        # The empty text, and two keys with the numbers of one to four digits 0 and 1.
        self.assertEqual(read, 1 + 2 * (2 + 2 + 4 + 8))

    def test_wrong_runs_to_write(self):
        good = (("a", 3), ("-", 0), ("<", 1))
        wrong_runs = [
            ("a",), ("a", 3, 3), ["a", 3], "a3", None, 3, (), ("A", 3), ("", 3), ("ab", 3), (3, "a"), ("a", -1),
            (None, 3), (b"a", 3), (("a",), 3), ("|", 3), ("\u00e9", 3), (["a"], 3),
        ]
        wrong_runs.extend([("a", wrong) for wrong in NOT_INTEGERS])
        for place in range(3):
            for wrong in wrong_runs:
                assert_error(self, InvalidRuns, format_runs, good[:place] + (wrong,) + good[place + 1:])
        for value in NOT_TUPLES + ([("a", 3)], ("a", 3), "-x12", Odd()):
            assert_error(self, InvalidRuns, format_runs, value)

    def test_by_name(self):
        self.assertEqual(format_runs(runs=(("-", 12), ("a", 3))), "-x12 ax3")
        self.assertEqual(parse_runs(text="-x12 ax3"), (("-", 12), ("a", 3)))


class Arguments(unittest.TestCase):
    def test_wrong_arguments_stay_unchanged(self):
        cursors, runs, text = [0, 1], [("a", 3)], ["a|"]
        assert_error(self, InvalidCursors, format_state, "ab", cursors)
        assert_error(self, InvalidRuns, format_runs, runs)
        assert_error(self, InvalidState, parse_state, text)
        assert_error(self, InvalidRuns, parse_runs, text)
        self.assertEqual((cursors, runs, text), ([0, 1], [("a", 3)], ["a|"]))


if __name__ == "__main__":
    unittest.main()

"""The examples of the document, as they stand there, and those of README.md."""

import doctest
import unittest
from pathlib import Path

README = Path(__file__).parent.parent / "README.md"

EXAMPLES = """
    >>> from cursorkeys.pressing import pressed
    >>> pressed("abc", (1, 3), "-x")
    ('xbx', (1, 3))
    >>> from cursorkeys.pressing import pressed
    >>> pressed("ab", (0, 1), "#x")
    ('x', (1,))
    >>> from cursorkeys.pressing import press_steps
    >>> list(press_steps("ab", (0, 1), "x#"))
    [('ab', (0, 1)), ('xaxb', (1, 3)), ('xx', (1, 2))]
    >>> from cursorkeys.pressing import layout_of
    >>> layout_of("abcdef", (2, 3, 6))
    (2, (1, 3), 0)
    >>> from cursorkeys.layouts import layout_after
    >>> layout_after((2, (1, 3), 0), (("-", 1), ("x", 2)))
    (3, (4,), 0)
    >>> from cursorkeys.layouts import layout_after
    >>> layout_after((1, (2, 3), 4), (("<", 4),))
    (0, (2,), 8)
    >>> from cursorkeys.layouts import merge_key
    >>> merge_key((1, (2, 3), 4), (("<", 4),), 0)
    3
    >>> from cursorkeys.layouts import cursors_after
    >>> cursors_after((2, (1, 3), 0), (("-", 1),))
    [0, 0, 1]
    >>> from cursorkeys.layouts import runs_of
    >>> runs_of("ab--")
    (('x', 2), ('-', 2))
    >>> from cursorkeys.reach import reach_of
    >>> reach_of("<<>>>")
    (2, 1)
    >>> from cursorkeys.reach import depth_of
    >>> depth_of("-x")
    1
    >>> from cursorkeys.reach import far_effect
    >>> far_effect(">#<x")
    (0, 2, ('x', 0), 1)
    >>> from cursorkeys.reach import same_far
    >>> same_far("a<b>", "ba")
    True
    >>> from cursorkeys.ends import same_at_one
    >>> same_at_one("x<-#", "")
    False
    >>> from cursorkeys.ends import first_difference
    >>> first_difference("<>", "")
    (0, 1)
    >>> from cursorkeys.ends import first_difference
    >>> first_difference("-x", "x<->")
    None
    >>> from cursorkeys.forms import form_of
    >>> form_of("xx#-")
    (0, 'x', 1, 0)
    >>> from cursorkeys.forms import joined
    >>> joined((1, "x", 0, 1), (2, "", 0, 2))
    (2, '', 0, 2)
    >>> from cursorkeys.forms import count_keys
    >>> count_keys((1, "", 1, 2))
    2
    >>> from cursorkeys.forms import same_everywhere
    >>> same_everywhere("#x", "x#")
    False
    >>> from cursorkeys.forms import parting_layout
    >>> parting_layout("#x", "x#")
    (0, (1,), 0)
    >>> from cursorkeys.pieces import pieces_after
    >>> pieces_after((2, (1, 3), 4), (1, "x", 0, 1))
    [(0, 1, 'x'), (0, 2, 'x'), (0, 4, '')]
    >>> from cursorkeys.pieces import pieces_after
    >>> pieces_after((0, (3,), 0), (0, "xy", 4, 2))
    [(0, 0, 'xy'), (0, 0, 'y'), (0, 0, '')]
    >>> from cursorkeys.pieces import layout_by_form
    >>> layout_by_form((2, (1, 3), 4), (1, "x", 0, 1))
    (2, (3,), 4)
    >>> from cursorkeys.pieces import rounds_layout
    >>> rounds_layout((0, (5, 9), 2), (2, "x", 0, 2), 4)
    (1, (5,), 2)
    >>> from cursorkeys.pieces import gone_after
    >>> gone_after((0, (5, 9), 2), (2, "x", 0, 2), 0)
    4
    >>> from cursorkeys.fewest import fewest_keys
    >>> fewest_keys((0, 2, ("x", 0), 1))
    4
    >>> from cursorkeys.fewest import is_shortest
    >>> is_shortest("x<>")
    False
    >>> from cursorkeys.keylists import Keys
    >>> keys = Keys("-x") + Keys(">") * 2
    >>> keys.written
    '-x>>'
    >>> keys("abc", (1, 3))
    ('xbx', (3,))
    >>> Keys("-x").begins(keys)
    True
    >>> from cursorkeys.editors import Editor
    >>> editor = Editor("abc", (1, 3))
    >>> editor.press("-x")
    2
    >>> editor.text_now
    'xbx'
    >>> editor.try_keys(">>")
    ('xbx', (3,))
    >>> editor.layout_now
    (1, (2,), 0)
    >>> from cursorkeys.kinds import OvertypeEditor
    >>> editor = OvertypeEditor("abcd", (0, 2))
    >>> editor.press("x")
    2
    >>> editor.text_now
    'xbxd'
    >>> from cursorkeys.texts import format_state
    >>> format_state("abc", (1, 3))
    'a|bc|'
    >>> from cursorkeys.texts import parse_runs
    >>> parse_runs("-x12 ax3")
    (('-', 12), ('a', 3))
"""


class Examples(unittest.TestCase):
    def check(self, text, many):
        examples = doctest.DocTestParser().get_doctest(text, {}, "examples", None, 0)
        self.assertEqual(len(examples.examples), many)
        for example in examples.examples:
            # Python shows nothing for None, where the document writes it.
            example.want = "" if example.want == "None\n" else example.want
        told = []
        result = doctest.DocTestRunner(verbose=False).run(examples, out=told.append)
        self.assertEqual(result.failed, 0, "".join(told))

    def test_document(self):
        self.check(EXAMPLES, 75)

    def test_readme(self):
        self.check(README.read_text(encoding="utf-8"), 52)


if __name__ == "__main__":
    unittest.main()

"""The examples of the document, as they stand there, and those of README.md."""

import doctest
import unittest
from pathlib import Path

README = Path(__file__).parent.parent / "README.md"

EXAMPLES = """
    >>> from cursorkeys.pressing import pressed
    >>> pressed("abc", (1, 3), "-x")
    ('xbx', (1, 3))
    >>> from cursorkeys.pressing import pressed
    >>> pressed("ab", (0, 1), "#x")
    ('x', (1,))
    >>> from cursorkeys.pressing import press_steps
    >>> list(press_steps("ab", (0, 1), "x#"))
    [('ab', (0, 1)), ('xaxb', (1, 3)), ('xx', (1, 2))]
    >>> from cursorkeys.pressing import layout_of
    >>> layout_of("abcdef", (2, 3, 6))
    (2, (1, 3), 0)
    >>> from cursorkeys.layouts import layout_after
    >>> layout_after((2, (1, 3), 0), (("-", 1), ("x", 2)))
    (3, (4,), 0)
    >>> from cursorkeys.layouts import layout_after
    >>> layout_after((1, (2, 3), 4), (("<", 4),))
    (0, (2,), 8)
    >>> from cursorkeys.layouts import merge_key
    >>> merge_key((1, (2, 3), 4), (("<", 4),), 0)
    3
    >>> from cursorkeys.layouts import cursors_after
    >>> cursors_after((2, (1, 3), 0), (("-", 1),))
    [0, 0, 1]
    >>> from cursorkeys.layouts import runs_of
    >>> runs_of("ab--")
    (('x', 2), ('-', 2))
    >>> from cursorkeys.reach import reach_of
    >>> reach_of("<<>>>")
    (2, 1)
    >>> from cursorkeys.reach import depth_of
    >>> depth_of("-x")
    1
    >>> from cursorkeys.reach import far_effect
    >>> far_effect(">#<x")
    (0, 2, ('x', 0), 1)
    >>> from cursorkeys.reach import same_far
    >>> same_far("a<b>", "ba")
    True
"""


class Examples(unittest.TestCase):
    def check(self, text, many):
        examples = doctest.DocTestParser().get_doctest(text, {}, "examples", None, 0)
        self.assertEqual(len(examples.examples), many)
        told = []
        result = doctest.DocTestRunner(verbose=False).run(examples, out=told.append)
        self.assertEqual(result.failed, 0, "".join(told))

    def test_document(self):
        self.check(EXAMPLES, 26)

    def test_readme(self):
        self.check(README.read_text(encoding="utf-8"), 13)


if __name__ == "__main__":
    unittest.main()

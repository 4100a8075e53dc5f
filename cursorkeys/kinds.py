"""Kinds of editors: letters may overtype, and cursors may be shy of each other."""

from cursorkeys.checks import LETTERS
from cursorkeys.editors import Editor
from cursorkeys.errors import CursorsMeet


class OvertypeEditor(Editor):
    """An editor in which a letter first removes the character right of each cursor."""

    def told(self):
        """Return what there is to tell about the editor."""
        return super().told() + ["overtype"]

    def _after_key(self, text, cursors, key):
        """Return the tuple (text, cursors) after one key."""
        if key in LETTERS:
            text, cursors = super()._after_key(text, cursors, "#")
        return super()._after_key(text, cursors, key)


class ShyEditor(Editor):
    """An editor in which cursors may not meet."""

    def told(self):
        """Return what there is to tell about the editor."""
        return super().told() + ["shy"]

    def _on_meeting(self, number):
        """Refuse that cursors meet behind the key with this number."""
        raise CursorsMeet(number)


# ShyEditor comes first, so that told ends with what it adds.
class ShyOvertypeEditor(ShyEditor, OvertypeEditor):
    """An editor that overtypes and in which cursors may not meet."""

"""Editors: objects that keep a text with cursors, and what was before."""

from cursorkeys.checks import are_cursors, check_keys, check_state, is_text
from cursorkeys.errors import NothingToUndo
from cursorkeys.pressing import layout_of, press_key
from cursorkeys.texts import parse_state


class Editor:
    """A text with cursors at which keys are pressed."""

    MOVES = ("<", ">")

    def __init__(self, text="", cursors=(0,)):
        check_state(text, cursors)
        self._state = (text, cursors)
        self._past = []

    @classmethod
    def read(cls, text):
        """Return an editor with the state that is written so."""
        text, cursors = parse_state(text)
        return cls(text, cursors)

    @staticmethod
    def is_valid(text, cursors):
        """Return whether any two values are a text and cursors of it."""
        return is_text(text) and are_cursors(cursors, text)

    @property
    def text_now(self):
        """The text."""
        return self._state[0]

    @property
    def cursors_now(self):
        """The cursors."""
        return self._state[1]

    @property
    def layout_now(self):
        """The layout of the text with the cursors."""
        text, cursors = self._state
        return layout_of(text, cursors)

    def press(self, keys):
        """Press a key list; return the number of cursors afterwards."""
        return self.press_all(keys)

    def press_all(self, *lists):
        """Press several key lists, all or none; return the number of cursors afterwards."""
        state = self._state_after(lists)
        self._past.append(self._state)
        self._state = state
        return len(state[1])

    def undo(self):
        """Take the latest call that pressed keys back."""
        if not self._past:
            raise NothingToUndo()
        self._state = self._past.pop()

    def try_keys(self, keys):
        """Return the tuple (text, cursors) that pressing a key list would lead to."""
        return self._state_after((keys,))

    def told(self):
        """Return what there is to tell about the editor."""
        text, cursors = self._state
        return [f"characters {len(text)}", f"cursors {len(cursors)}"]

    def __len__(self):
        return len(self._past)

    def _state_after(self, lists):
        """Return the tuple (text, cursors) after key lists, all of them checked first."""
        for keys in lists:
            check_keys(keys)
        text, cursors = self._state
        for k, key in enumerate("".join(lists)):
            many = len(cursors)
            text, cursors = self._after_key(text, cursors, key)
            if len(cursors) < many:
                self._on_meeting(k + 1)
        return text, cursors

    def _after_key(self, text, cursors, key):
        """Return the tuple (text, cursors) after one key of this kind of editor."""
        return press_key(text, cursors, key)

    def _on_meeting(self, number):
        """Do what this kind of editor does when cursors meet behind a key: nothing."""

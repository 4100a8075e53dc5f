"""Key lists as objects."""

from cursorkeys.checks import LENGTH_LIMIT, check_index, check_keys, check_length, check_rounds
from cursorkeys.errors import NotKeys
from cursorkeys.pressing import pressed


class Keys:
    """A key list that never changes."""

    def __init__(self, text):
        check_keys(text)
        self._text = text

    @property
    def written(self):
        """The str of the keys."""
        return self._text

    def begins(self, other):
        """Return whether this list is a beginning of the other one."""
        _check_is_keys_object(other)
        return other.written.startswith(self._text)

    def __add__(self, other):
        _check_is_keys_object(other)
        check_length(len(self._text) + len(other.written))
        return Keys(self._text + other.written)

    def __mul__(self, other):
        check_rounds(other)
        check_length(len(self._text) * other)
        # The empty list may be repeated more often than Python repeats a str.
        return Keys(self._text * min(other, LENGTH_LIMIT))

    def __neg__(self):
        return Keys(self._text[::-1])

    def __eq__(self, other):
        return isinstance(other, Keys) and self._text == other._text

    def __len__(self):
        return len(self._text)

    def __contains__(self, x):
        return isinstance(x, str) and len(x) == 1 and x in self._text

    def __getitem__(self, at):
        check_index(at, len(self._text))
        return self._text[at]

    def __iter__(self):
        raise TypeError("a Keys object is not iterated over: iterate over its written")

    def __call__(self, text, cursors):
        return pressed(text, cursors, self._text)


def _check_is_keys_object(value):
    """Raise NotKeys if a value is not a Keys object."""
    if not isinstance(value, Keys):
        raise NotKeys()

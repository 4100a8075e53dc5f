"""The errors of the package."""


class KeyListError(ValueError):
    """The base class of all errors of the package."""


class InvalidText(KeyListError):
    """A text is not a str of the letters a to z and A to Z."""


class InvalidCursors(KeyListError):
    """Cursors are not a non-empty ascending tuple of places in the text."""


class InvalidKeys(KeyListError):
    """A key list is not a str of keys."""


class InvalidLayout(KeyListError):
    """A layout is not a tuple (before, gaps, behind)."""


class InvalidRuns(KeyListError):
    """Runs are not a tuple of tuples (key, count), or a text of runs is wrong."""


class InvalidIndex(KeyListError):
    """An index is not an integer from 0 to the last index."""


class HasMoves(KeyListError):
    """A key list has moves where it must have none."""


class InvalidForm(KeyListError):
    """A value is not the form of any key list."""


class InvalidRounds(KeyListError):
    """A number of rounds is not an integer from 0 on."""


class InvalidEffect(KeyListError):
    """A value is not the far effect of any key list."""


class NotKeys(KeyListError):
    """A value is not a Keys object."""


class NothingToUndo(KeyListError):
    """No call is left that can be taken back."""


class InvalidState(KeyListError):
    """A value is not the written state of a text with cursors."""


class CursorsMeet(KeyListError):
    """Two cursors would meet behind the key with the number key (from 1)."""

    def __init__(self, key):
        super().__init__(f"two cursors would meet behind key {key}")
        self.key = key


class TooLong(KeyListError):
    """A result would have more than limit keys."""

    def __init__(self, limit):
        super().__init__(f"the result would have more than {limit} keys")
        self.limit = limit

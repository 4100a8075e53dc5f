"""Which values are the arguments that the functions of the package take."""

from cursorkeys.errors import InvalidCursors, InvalidIndex, InvalidKeys
from cursorkeys.errors import InvalidLayout, InvalidRounds, InvalidRuns, InvalidText, TooLong

LETTERS = "abcdefghijklmnopqrstuvwxyz"
TEXT_LETTERS = "abcdefghijklmnopqrstuvwxyzABCDEFGHIJKLMNOPQRSTUVWXYZ"
KEYS = "abcdefghijklmnopqrstuvwxyz-#<>"
LENGTH_LIMIT = 300


def is_integer(value):
    """Return whether any value is an int that is not a bool."""
    return isinstance(value, int) and not isinstance(value, bool)


def is_integer_from(value, least):
    """Return whether any value is an integer from least on."""
    return is_integer(value) and value >= least


def is_made_of(value, signs):
    """Return whether any value is a str of some of the characters of signs."""
    return isinstance(value, str) and all([sign in signs for sign in value])


def is_text(value):
    """Return whether any value is a text."""
    return is_made_of(value, TEXT_LETTERS)


def are_cursors(value, text):
    """Return whether any value is cursors of the text."""
    if not isinstance(value, tuple) or len(value) == 0:
        return False
    if not all([is_integer(at) for at in value]):
        return False
    if value[0] < 0 or value[-1] > len(text):
        return False
    return all([value[k] < value[k + 1] for k in range(len(value) - 1)])


def is_layout(value):
    """Return whether any value is a layout."""
    if not isinstance(value, tuple) or len(value) != 3:
        return False
    before, gaps, behind = value
    if not is_integer_from(before, 0) or not is_integer_from(behind, 0):
        return False
    return isinstance(gaps, tuple) and all([is_integer_from(gap, 1) for gap in gaps])


def is_run(value):
    """Return whether any value is a tuple of one key and its count."""
    if not isinstance(value, tuple) or len(value) != 2:
        return False
    key, count = value
    return is_made_of(key, KEYS) and len(key) == 1 and is_integer_from(count, 0)


def are_runs(value):
    """Return whether any value is runs."""
    return isinstance(value, tuple) and all([is_run(item) for item in value])


def check_state(text, cursors):
    """Raise the first error that a text with cursors has."""
    if not is_text(text):
        raise InvalidText()
    if not are_cursors(cursors, text):
        raise InvalidCursors()


def check_keys(keys):
    """Raise InvalidKeys if keys is not a key list."""
    if not is_made_of(keys, KEYS):
        raise InvalidKeys()


def check_layout(layout):
    """Raise InvalidLayout if layout is not a layout."""
    if not is_layout(layout):
        raise InvalidLayout()


def check_runs(runs):
    """Raise InvalidRuns if runs are not runs."""
    if not are_runs(runs):
        raise InvalidRuns()


def check_index(index, many):
    """Raise InvalidIndex if index is not an integer from 0 to many - 1."""
    if not is_integer_from(index, 0) or index >= many:
        raise InvalidIndex()


def check_rounds(rounds):
    """Raise InvalidRounds if rounds is not an integer from 0 on."""
    if not is_integer_from(rounds, 0):
        raise InvalidRounds()


def check_length(many):
    """Raise TooLong if a result would have so many keys and these are too many."""
    if many > LENGTH_LIMIT:
        raise TooLong(LENGTH_LIMIT)

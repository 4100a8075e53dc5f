"""States of a text with cursors, and runs, written as texts."""

from cursorkeys.checks import KEYS, TEXT_LETTERS, check_runs, check_state, is_made_of
from cursorkeys.errors import InvalidRuns, InvalidState

CURSOR = "|"
DIGITS = "0123456789"


def format_state(text, cursors):
    """Return the text with a sign at each cursor."""
    check_state(text, cursors)
    edges = [0, *cursors, len(text)]
    return CURSOR.join([text[edges[k]:edges[k + 1]] for k in range(len(edges) - 1)])


def format_runs(runs):
    """Return the text of runs."""
    check_runs(runs)
    return " ".join([key + "x" + _digits_of(count) for key, count in runs])


def parse_state(text):
    """Return the tuple (text, cursors) that is written so."""
    if not is_made_of(text, TEXT_LETTERS + CURSOR):
        raise InvalidState()
    parts = text.split(CURSOR)
    # An empty part between two signs would be two cursors at the same place.
    if len(parts) == 1 or "" in parts[1:-1]:
        raise InvalidState()
    cursors = []
    at = 0
    for part in parts[:-1]:
        at += len(part)
        cursors.append(at)
    return "".join(parts), tuple(cursors)


def parse_runs(text):
    """Return the runs that are written so."""
    if not isinstance(text, str):
        raise InvalidRuns()
    if text == "":
        return ()
    return tuple([_parse_run(word) for word in text.split(" ")])


def _parse_run(word):
    """Return the run (key, count) that is written so."""
    key = word[:1]
    count = word[2:]
    if not is_made_of(key, KEYS) or word[1:2] != "x" or not _is_number(count):
        raise InvalidRuns()
    return key, _number_of(count)


def _is_number(word):
    """Return whether a str is a number of digits 0 to 9 without a leading zero."""
    if word == "" or not is_made_of(word, DIGITS):
        return False
    return word == "0" or word[0] != "0"


def _number_of(digits):
    """Return the number that is written with these digits."""
    # int refuses some thousand digits with an error that is none of the package.
    number = 0
    for digit in digits:
        number = 10 * number + DIGITS.index(digit)
    return number


def _digits_of(number):
    """Return the digits of a number."""
    # str refuses numbers of some thousand digits, too.
    digits = ""
    while number >= 10:
        number, last = divmod(number, 10)
        digits = DIGITS[last] + digits
    return DIGITS[number] + digits

"""Pressing keys at all cursors of a text."""

from cursorkeys.checks import KEYS, check_keys, check_state, is_made_of


def is_keys(value):
    """Return whether any value is a key list."""
    return is_made_of(value, KEYS)


def pressed(text, cursors, keys):
    """Return the tuple (text, cursors) after a key list."""
    check_state(text, cursors)
    check_keys(keys)
    for key in keys:
        text, cursors = press_key(text, cursors, key)
    return text, cursors


def press_steps(text, cursors, keys):
    """Yield the tuple (text, cursors) before the first key and after each key."""
    check_state(text, cursors)
    check_keys(keys)
    yield text, cursors
    for key in keys:
        text, cursors = press_key(text, cursors, key)
        yield text, cursors


def layout_of(text, cursors):
    """Return the layout of a text with cursors."""
    check_state(text, cursors)
    gaps = tuple([cursors[k + 1] - cursors[k] for k in range(len(cursors) - 1)])
    return cursors[0], gaps, len(text) - cursors[-1]


def press_key(text, cursors, key):
    """Return the tuple (text, cursors) after one key, all of them valid."""
    if key == "<":
        return text, _as_one([max(0, at - 1) for at in cursors])
    if key == ">":
        return text, _as_one([min(len(text), at + 1) for at in cursors])
    if key == "-":
        return _without(text, cursors, [at - 1 for at in cursors if at > 0])
    if key == "#":
        return _without(text, cursors, [at for at in cursors if at < len(text)])
    return _with_letter(text, cursors, key)


def _with_letter(text, cursors, letter):
    """Return the text with the letter left of each cursor, and the cursors."""
    parts = []
    start = 0
    for at in cursors:
        parts.append(text[start:at] + letter)
        start = at
    parts.append(text[start:])
    return "".join(parts), tuple([at + k + 1 for k, at in enumerate(cursors)])


def _without(text, cursors, places):
    """Return the text without the characters at ascending places, and the cursors."""
    parts = []
    start = 0
    for place in places:
        parts.append(text[start:place])
        start = place + 1
    parts.append(text[start:])
    moved = []
    gone = 0
    for at in cursors:
        while gone < len(places) and places[gone] < at:
            gone += 1
        moved.append(at - gone)
    return "".join(parts), _as_one(moved)


def _as_one(places):
    """Return ascending places as cursors: those at the same place become one."""
    return tuple([at for k, at in enumerate(places) if k == 0 or places[k - 1] != at])

"""Plain and slow ways of doing what the package does, and values for tests."""

from itertools import product

from cursorkeys.errors import KeyListError

SMALL_KEYS = "a-#<>"

NOT_INTEGERS = (None, True, False, "1", 1.0, 1.5, (1,), [1], b"1", {1: 1})
NOT_STRINGS = (None, 0, 1, True, False, 1.5, b"", b"ab", [], ["a"], (), ("a",), {}, {"a": 1})
NOT_TUPLES = (None, 0, 1, True, False, 1.5, "", "ab", b"", [], [0], [("a", 1)], {}, {0: 1}, range(1))


def plain_key(text, places, key):
    """Press one key; places has a place for each first cursor, also equal ones."""
    if key == "<":
        return text, [max(place - 1, 0) for place in places]
    if key == ">":
        return text, [min(place + 1, len(text)) for place in places]
    out = []
    new = {}
    for at in range(len(text) + 1):
        here = at in places
        if here and key not in "-#":
            out.append(key)
        new[at] = len(out)
        removed = (here and key == "#") or (at + 1 in places and key == "-")
        if at < len(text) and not removed:
            out.append(text[at])
    return "".join(out), [new[place] for place in places]


def plain_press(text, cursors, keys):
    """Press keys; return the text and the cursors afterwards."""
    places = list(cursors)
    for key in keys:
        text, places = plain_key(text, places, key)
    return text, tuple(sorted(set(places)))


def plain_tracks(text, cursors, keys):
    """Return the places of all first cursors before the first and after each key."""
    places = list(cursors)
    tracks = [places]
    for key in keys:
        text, places = plain_key(text, places, key)
        tracks.append(places)
    return tracks


def all_keys(most, keys=SMALL_KEYS):
    """Return all key lists with at most so many keys."""
    return ["".join(word) for many in range(most + 1) for word in product(keys, repeat=many)]


def all_cursors(length):
    """Return all cursors of a text with so many characters."""
    every = []
    for bits in range(1, 2 ** (length + 1)):
        every.append(tuple(at for at in range(length + 1) if bits >> at & 1))
    return every


def some_keys(random, most, keys="abz-#<>"):
    """Return a key list with at most so many keys."""
    return "".join(random.choice(keys) for _ in range(random.randrange(most + 1)))


def some_state(random, most):
    """Return a text with at most so many characters, and cursors of it."""
    text = "".join(random.choice("abcXYZ") for _ in range(random.randrange(most + 1)))
    many = random.randrange(1, len(text) + 2)
    return text, tuple(sorted(random.sample(range(len(text) + 1), many)))


def assert_error(case, error, function, *args, **named):
    """Assert that the call raises an error of exactly this class."""
    try:
        answer = function(*args, **named)
    except KeyListError as raised:
        case.assertIs(raised.__class__, error, (args, named))
        case.assertIsInstance(raised, ValueError)
    else:
        case.fail(f"{function.__name__}{args}{named} returned {answer!r}")

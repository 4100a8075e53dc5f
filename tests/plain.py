"""Plain and slow ways of doing what the package does, and values for tests."""

from itertools import product

from cursorkeys.errors import KeyListError

SMALL_KEYS = "a-#<>"

# Characters that differ from each other and from all letters that can be typed.
MARKS = "".join(chr(10000 + k) for k in range(1000))

NOT_INTEGERS = (None, True, False, "1", 1.0, 1.5, (1,), [1], b"1", {1: 1})
NOT_STRINGS = (None, 0, 1, True, False, 1.5, b"", b"ab", [], ["a"], (), ("a",), {}, {"a": 1})
NOT_TUPLES = (None, 0, 1, True, False, 1.5, "", "ab", b"", [], [0], [("a", 1)], {}, {0: 1}, range(1))


def plain_key(text, places, key):
    """Press one key; places has a place for each first cursor, also equal ones."""
    if key == "<":
        return text, [max(place - 1, 0) for place in places]
    if key == ">":
        return text, [min(place + 1, len(text)) for place in places]
    out = []
    new = {}
    for at in range(len(text) + 1):
        here = at in places
        if here and key not in "-#":
            out.append(key)
        new[at] = len(out)
        removed = (here and key == "#") or (at + 1 in places and key == "-")
        if at < len(text) and not removed:
            out.append(text[at])
    return "".join(out), [new[place] for place in places]


def plain_press(text, cursors, keys):
    """Press keys; return the text and the cursors afterwards."""
    places = list(cursors)
    for key in keys:
        text, places = plain_key(text, places, key)
    return text, tuple(sorted(set(places)))


def plain_tracks(text, cursors, keys):
    """Return the places of all first cursors before the first and after each key."""
    places = list(cursors)
    tracks = [places]
    for key in keys:
        text, places = plain_key(text, places, key)
        tracks.append(places)
    return tracks


def plain_kind_key(text, cursors, key, overtype):
    """Press one key; if letters overtype, with a removal ahead of each, whose cursors become one."""
    if overtype and key not in "-#<>":
        text, cursors = plain_press(text, cursors, "#")
    return plain_press(text, cursors, key)


def plain_kind_press(text, cursors, keys, overtype=False, shy=False):
    """Press keys; return the text and the cursors, or the number of the key at which shy cursors meet."""
    for number, key in enumerate(keys, 1):
        many = len(cursors)
        text, cursors = plain_kind_key(text, cursors, key, overtype)
        if shy and len(cursors) < many:
            return number
    return text, cursors


def plain_regions(layout, keys):
    """Press keys on marks; return the regions that are left as (index, text), also empty ones.

    The index is that of the region in the layout. A gap is left as long as the
    cursors beside it are at different places.
    """
    text, places = state_of(layout)
    for key in keys:
        text, places = plain_key(text, places, key)
    edges = [0, *places, len(text)]
    last = len(edges) - 2
    return [
        (at, text[edges[at]:edges[at + 1]])
        for at in range(last + 1)
        if at in (0, last) or edges[at] < edges[at + 1]
    ]


def state_of(layout):
    """Return a text of marks and its cursors with this layout."""
    before, gaps, behind = layout
    places = [before]
    for gap in gaps:
        places.append(places[-1] + gap)
    return MARKS[:places[-1] + behind], tuple(places)


def all_layouts(size, many):
    """Return all layouts with so many characters and so many gaps, the smallest tuple first."""
    layouts = []
    for before, *gaps in product(range(size + 1), repeat=many + 1):
        behind = size - before - sum(gaps)
        if behind >= 0 and 0 not in gaps:
            layouts.append((before, tuple(gaps), behind))
    return layouts


def all_keys(most, keys=SMALL_KEYS):
    """Return all key lists with at most so many keys."""
    return ["".join(word) for many in range(most + 1) for word in product(keys, repeat=many)]


def all_cursors(length):
    """Return all cursors of a text with so many characters."""
    every = []
    for bits in range(1, 2 ** (length + 1)):
        every.append(tuple(at for at in range(length + 1) if bits >> at & 1))
    return every


def some_keys(random, most, keys="abz-#<>"):
    """Return a key list with at most so many keys."""
    return "".join(random.choice(keys) for _ in range(random.randrange(most + 1)))


def some_state(random, most):
    """Return a text with at most so many characters, and cursors of it."""
    text = "".join(random.choice("abcXYZ") for _ in range(random.randrange(most + 1)))
    many = random.randrange(1, len(text) + 2)
    return text, tuple(sorted(random.sample(range(len(text) + 1), many)))


def some_form(random, largest, letters):
    """Return a form with numbers b and a below largest and a word of at most so many letters."""
    b = random.randrange(largest)
    a = random.randrange(largest)
    word = "".join(random.choice("ab") for _ in range(random.randrange(letters + 1)))
    return b, word, a, random.randint(max(b, a + b - len(word)), a + b)


def assert_error(case, error, function, *args, **named):
    """Assert that the call raises an error of exactly this class."""
    try:
        answer = function(*args, **named)
    except KeyListError as raised:
        case.assertIs(raised.__class__, error, (args, named))
        case.assertIsInstance(raised, ValueError)
    else:
        case.fail(f"{function.__name__}{args}{named} returned {answer!r}")


class Odd:
    """A value of no kind that the package knows."""


def odd_values():
    """Return values of many kinds, none of them a tuple with four items."""
    endless = []
    endless.append(endless)
    return (
        None, True, False, 0, 7, -1, 10 ** 40, 1.5, float("nan"), 1j, "", "abc", "abcd", b"", b"abcd",
        (), (0,), (0, "", 0), (0, "", 0, 0, 0), [], [0, "", 0, 0], [0, 0, (), 0], {}, {0: 1, 1: 2, 2: 3, 3: 4},
        {0, 1, 2, 3}, frozenset(), range(4), endless, (endless,), Odd, Odd(), len, lambda: 0, ValueError(), ...,
        NotImplemented, iter(()), bytearray(b"abcd"), "\ud800",
    )

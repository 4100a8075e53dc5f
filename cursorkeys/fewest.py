"""The fewest keys for what a key list does far from both ends of the text.

A place is between two kept characters, and has the number of kept characters
left of it. Typed and removed characters stand at places, and so does the cursor.
"""

from cursorkeys.checks import LETTERS, check_keys, check_length
from cursorkeys.checks import is_integer, is_integer_from, is_made_of
from cursorkeys.errors import InvalidEffect
from cursorkeys.reach import far_effect


def is_effect(value):
    """Return whether any value is a far effect, perhaps with more kept characters."""
    if not isinstance(value, tuple) or len(value) != 4:
        return False
    left_reach, right_reach, items, place = value
    if not is_integer_from(left_reach, 0) or not is_integer_from(right_reach, 0):
        return False
    if not isinstance(items, tuple) or not all([_is_item(item) for item in items]):
        return False
    if not is_integer_from(place, 0) or place > len(items):
        return False
    edges = _edges(value)
    return all([edges[k] < edges[k + 1] for k in range(len(edges) - 1)])


def fewest_keys(effect):
    """Return the least number of keys of a list with this far effect."""
    _check_effect(effect)
    items, place = effect[2:]
    typed = len([item for item in items if not is_integer(item)])
    typed_right = len([item for item in items[place:] if not is_integer(item)])
    return typed + sum(_removed(effect)) + typed_right + _count_moves(effect)


def shortest_keys(effect):
    """Return a list with this far effect and the least number of keys."""
    check_length(fewest_keys(effect))
    removals = _keys_that_remove(effect)
    letters = _keys_for_letters(effect)
    walk = _walk(effect)
    parts = []
    for k, place in enumerate(walk):
        # Removing comes at the first visit, so that no move goes over what is removed;
        # letters come at the last one, so that each stays on its side of the cursor.
        if place not in walk[:k]:
            parts.append(removals[place])
        if place not in walk[k + 1:]:
            parts.append(letters[place])
        if k + 1 < len(walk):
            parts.append("<" if walk[k + 1] < place else ">")
    return "".join(parts)


def is_shortest(keys):
    """Return whether no list with fewer keys is the same far from both ends."""
    check_keys(keys)
    return len(keys) == fewest_keys(far_effect(keys))


def _is_item(value):
    """Return whether any value is an integer or a letter."""
    return is_integer(value) or (is_made_of(value, LETTERS) and len(value) == 1)


def _check_effect(effect):
    """Raise InvalidEffect if effect is not a far effect."""
    if not is_effect(effect):
        raise InvalidEffect()


def _edges(effect):
    """Return the kept characters of an effect, with those beside its reach."""
    left_reach, right_reach, items, _ = effect
    return [-left_reach - 1, *[item for item in items if is_integer(item)], right_reach]


def _removed(effect):
    """Return for each place the number of characters that are removed there."""
    edges = _edges(effect)
    return [edges[k + 1] - edges[k] - 1 for k in range(len(edges) - 1)]


def _words(items):
    """Return the letters at each place from the first to the last one of items."""
    words = [""]
    for item in items:
        if is_integer(item):
            words.append("")
        else:
            words[-1] = words[-1] + item
    return words


def _start_of(effect):
    """Return the place where the cursor starts."""
    return len([item for item in effect[2] if is_integer(item) and item < 0])


def _end_of(effect):
    """Return the place where the cursor ends."""
    return len([item for item in effect[2][:effect[3]] if is_integer(item)])


def _range_of(effect):
    """Return the least and the greatest place where the cursor has to be."""
    removed = _removed(effect)
    words = _words(effect[2])
    places = [k for k in range(len(words)) if words[k] or removed[k] > 0]
    places.extend([_start_of(effect), _end_of(effect)])
    return min(places), max(places)


def _count_moves(effect):
    """Return the number of moves over kept characters."""
    start = _start_of(effect)
    end = _end_of(effect)
    least, greatest = _range_of(effect)
    return abs(start - end) + 2 * (min(start, end) - least) + 2 * (greatest - max(start, end))


def _walk(effect):
    """Return the places of the cursor, one move over a kept character after another."""
    least, greatest = _range_of(effect)
    end = _end_of(effect)
    walk = [_start_of(effect)]
    turns = (least, greatest, end) if walk[0] <= end else (greatest, least, end)
    for turn in turns:
        step = 1 if turn > walk[-1] else -1
        while walk[-1] != turn:
            walk.append(walk[-1] + step)
    return walk


def _keys_that_remove(effect):
    """Return for each place the keys that remove what is removed there.

    A cursor comes to each place from where it starts, so only at the start there
    is something to remove on both of its sides.
    """
    start = _start_of(effect)
    edges = _edges(effect)
    keys = []
    for place, many in enumerate(_removed(effect)):
        if place == start:
            keys.append("-" * (-1 - edges[place]) + "#" * edges[place + 1])
        else:
            keys.append("-" * many if place < start else "#" * many)
    return keys


def _keys_for_letters(effect):
    """Return for each place the keys for its letters, each on its side of the cursor at the end."""
    items, place = effect[2:]
    left = _words(items[:place])
    right = _words(items[place:])
    moved = [word + "<" * len(word) for word in right]
    return [*left[:-1], left[-1] + moved[0], *moved[1:]]

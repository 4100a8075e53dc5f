"""The forms of key lists without moves.

A form is a tuple (b, T, a, D): the last b characters left of a cursor go, the
word T is typed, a characters right of it go, and D is the depth.
"""

from cursorkeys.checks import LETTERS, check_keys, check_length, is_integer_from, is_made_of
from cursorkeys.errors import HasMoves, InvalidForm
from cursorkeys.reach import depth_of


def form_of(keys):
    """Return the form of a key list without moves."""
    _check_keys_without_moves(keys)
    back = 0
    word = ""
    ahead = 0
    for key in keys:
        if key == "#":
            ahead += 1
        elif key != "-":
            word = word + key
        elif word:
            word = word[:-1]
        else:
            back += 1
    return back, word, ahead, depth_of(keys)


def is_form(value):
    """Return whether any value is the form of some key list."""
    if not isinstance(value, tuple) or len(value) != 4:
        return False
    back, word, ahead, depth = value
    if not all([is_integer_from(number, 0) for number in (back, ahead, depth)]):
        return False
    if not is_made_of(word, LETTERS):
        return False
    return depth >= max(back, ahead + back - len(word)) and depth <= ahead + back


def joined(form, *more):
    """Return the form of all lists with these forms one behind another."""
    check_form(form)
    for second in more:
        check_form(second)
    for second in more:
        form = _joined_two(form, second)
    return form


def keys_of(form):
    """Return a key list with this form with as few keys as possible."""
    check_form(form)
    check_length(_least_length(form))
    back, word, ahead, depth = form
    # The first two parts reach the depth; behind the word no later part exceeds it.
    early = depth - back
    return "#" * early + "-" * back + word + "#" * (ahead - early)


def count_keys(form):
    """Return how many of the shortest key lists have this form."""
    check_form(form)
    check_length(_least_length(form))
    depth = form[3]
    return _count_up_to(form, depth) - _count_up_to(form, depth - 1)


def same_everywhere(keys, other):
    """Return whether two key lists do the same with all texts and cursors."""
    return form_of(keys) == form_of(other)


def parting_layout(keys, other):
    """Return the least layout with at most one gap for which two lists differ, or None."""
    back, word, ahead, depth = form_of(keys)
    other_back, other_word, other_ahead, other_depth = form_of(other)
    if word != other_word:
        return 0, (), 0
    layouts = []
    if back != other_back:
        layouts.append((min(back, other_back) + 1, (), 0))
    if ahead != other_ahead:
        layouts.append((0, (), min(ahead, other_ahead) + 1))
    # Gaps up to the lesser depth vanish for both lists. The next one is gone for one of
    # them or, with the same b, gets another length. With another b the first layout
    # above comes before it anyway: no depth is less than its b.
    if ahead != other_ahead or depth != other_depth:
        layouts.append((0, (min(depth, other_depth) + 1,), 0))
    if not layouts:
        return None
    return min([(_size_of(layout), len(layout[1]), layout) for layout in layouts])[2]


def check_form(form):
    """Raise InvalidForm if form is not a form."""
    if not is_form(form):
        raise InvalidForm()


def _check_keys_without_moves(keys):
    """Raise the first error of what should be a key list without moves."""
    check_keys(keys)
    if "<" in keys or ">" in keys:
        raise HasMoves()


def _least_length(form):
    """Return the least number of keys of a key list with this form."""
    back, word, ahead, _ = form
    return back + len(word) + ahead


def _joined_two(form, second):
    """Return the form of a list with the first form, followed by one with the second."""
    back, word, ahead, depth = form
    second_back, second_word, second_ahead, second_depth = second
    rest = max(0, len(word) - second_back)
    return (
        back + max(0, second_back - len(word)),
        word[:rest] + second_word,
        ahead + second_ahead,
        max(depth, back + ahead - len(word) + second_depth),
    )


def _count_up_to(form, depth):
    """Return how many of the shortest lists for b, T and a are of at most this depth.

    In such a list all `-` stand before the letters, and the `#` anywhere.
    """
    back, word, ahead, _ = form
    # ways[k]: how many beginnings have k times `#` beside so many of the other keys.
    ways = [1] + [0] * ahead
    for others in range(back + len(word) + 1):
        shorter = min(others, 2 * back - others)
        row = []
        for k in range(ahead + 1):
            from_left = row[k - 1] if k > 0 else 0
            row.append(ways[k] + from_left if shorter + k <= depth else 0)
        ways = row
    return ways[-1]


def _size_of(layout):
    """Return the number of characters of a layout."""
    before, gaps, behind = layout
    return before + sum(gaps) + behind

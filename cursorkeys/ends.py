"""What key lists do at a single cursor, near the ends of the text too."""

from cursorkeys.checks import check_keys
from cursorkeys.reach import press_between, reach_of


def same_at_one(keys, other):
    """Return whether two key lists do the same with every single cursor."""
    return first_difference(keys, other) is None


def first_difference(keys, other):
    """Return a least layout (before, behind) for which two key lists differ, or None."""
    check_keys(keys)
    check_keys(other)
    most = max(sum(reach_of(keys)), sum(reach_of(other)))
    # If no key misses a character on one side, more characters there would only
    # stay as they are: layouts with more of them need not be tried.
    enough_before = {}
    enough_behind = {}
    for before, behind in _least_layouts_first(most):
        if behind in enough_before or before in enough_behind:
            continue
        sides, missed_left, missed_right = _played(keys, before, behind)
        other_sides, other_missed_left, other_missed_right = _played(other, before, behind)
        if sides != other_sides:
            return before, behind
        if not missed_left and not other_missed_left:
            enough_before[behind] = True
        if not missed_right and not other_missed_right:
            enough_behind[before] = True
    return None


def _least_layouts_first(most):
    """Return the layouts with at most so many characters on each side of the cursor."""
    return [
        (before, total - before)
        for total in range(2 * most + 1)
        for before in range(max(0, total - most), min(total, most) + 1)
    ]


def _played(keys, before, behind):
    """Return both sides of the cursor afterwards, and on which of them a key missed one.

    The characters of the text are numbers: they differ from all typed letters.
    """
    left = list(range(before))
    right = list(range(before, before + behind))
    missed_left = False
    missed_right = False
    for key in keys:
        if key in "<-" and not left:
            missed_left = True
        elif key in ">#" and not right:
            missed_right = True
        else:
            press_between(left, right, key)
    return (left, right), missed_left, missed_right

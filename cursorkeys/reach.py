"""What a key list does at a single cursor far from both ends of the text."""

from cursorkeys.checks import LETTERS, check_keys


def reach_of(keys):
    """Return the left and the right reach (l, r) of a key list."""
    return far_effect(keys)[:2]


def depth_of(keys):
    """Return the depth: far from the ends the gaps up to it vanish."""
    check_keys(keys)
    depth = 0
    shorter = 0
    for key in keys:
        shorter = shorter - _growth(key)
        depth = max(depth, shorter)
    return depth


def net_of(keys):
    """Return the number of letters minus the number of removing keys."""
    check_keys(keys)
    return sum([_growth(key) for key in keys])


def far_effect(keys):
    """Return the far effect (l, r, items, place) of a key list."""
    check_keys(keys)
    # The items on each side of the cursor, the nearest one last. An original
    # character comes in when a key reaches it, so what is beyond is out of reach.
    left = []
    right = []
    left_reach = 0
    right_reach = 0
    for key in keys:
        if key in "<-" and not left:
            left_reach += 1
            left.append(-left_reach)
        if key in ">#" and not right:
            right.append(right_reach)
            right_reach += 1
        press_between(left, right, key)
    return left_reach, right_reach, tuple(left + right[::-1]), len(left)


def same_far(keys, other):
    """Return whether two key lists do the same far from both ends."""
    first = far_effect(keys)
    second = far_effect(other)
    left_reach = max(first[0], second[0])
    right_reach = max(first[1], second[1])
    return _completed(first, left_reach, right_reach) == _completed(second, left_reach, right_reach)


def press_between(left, right, key):
    """Press a key between the items of both sides, the nearest ones last.

    The key finds what it needs there.
    """
    if key == "<":
        right.append(left.pop())
    elif key == ">":
        left.append(right.pop())
    elif key == "-":
        left.pop()
    elif key == "#":
        right.pop()
    else:
        left.append(key)


def _growth(key):
    """Return by how much a key makes a gap longer, far from the ends."""
    if key in LETTERS:
        return 1
    if key in "-#":
        return -1
    return 0


def _completed(effect, left_reach, right_reach):
    """Return a far effect with more kept characters, up to these greater reaches."""
    left_before, right_before, items, place = effect
    new_left = tuple(range(-left_reach, -left_before))
    new_right = tuple(range(right_before, right_reach))
    return left_reach, right_reach, new_left + items + new_right, place + len(new_left)

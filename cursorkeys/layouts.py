"""What runs of keys make of a layout, however large its numbers are.

The functions work on regions: a list of the number of characters left of the
first cursor, the size of each gap of the first layout and the number of
characters right of the last cursor. A gap that is gone stays in the list as 0,
so that each gap keeps its index.
"""

from cursorkeys.checks import LETTERS, check_index, check_keys, check_layout, check_runs


def layout_after(layout, runs):
    """Return the layout after the runs."""
    check_layout(layout)
    check_runs(runs)
    regions = _regions_after(layout, runs)
    return regions[0], tuple([size for size in regions[1:-1] if size > 0]), regions[-1]


def merge_key(layout, runs, index):
    """Return the number of the key behind which a gap is gone, or None."""
    check_layout(layout)
    check_runs(runs)
    check_index(index, len(layout[1]))
    regions = _regions_of(layout)
    before = 0
    for key, count in runs:
        needed = _count_until_gone(regions, index + 1, key)
        if needed is not None and needed <= count:
            return before + needed
        regions = _after_run(regions, key, count)
        before = before + count
    return None


def cursors_after(layout, runs):
    """Return for each cursor the index of the cursor that it has become."""
    check_layout(layout)
    check_runs(runs)
    found = [0]
    for size in _regions_after(layout, runs)[1:-1]:
        found.append(found[-1] + 1 if size > 0 else found[-1])
    return found


def runs_of(keys):
    """Return the fewest runs of a key list, with all letters written as x."""
    check_keys(keys)
    runs = []
    for key in keys:
        name = "x" if key in LETTERS else key
        if runs and runs[-1][0] == name:
            runs[-1] = (name, runs[-1][1] + 1)
        else:
            runs.append((name, 1))
    return tuple(runs)


def _regions_of(layout):
    """Return the regions of a layout."""
    before, gaps, behind = layout
    return [before, *gaps, behind]


def _regions_after(layout, runs):
    """Return the regions of a layout after the runs."""
    regions = _regions_of(layout)
    for key, count in runs:
        regions = _after_run(regions, key, count)
    return regions


def _after_run(regions, key, count):
    """Return the regions after so many times the key."""
    if key == "<":
        return _carried(regions, count)
    if key == ">":
        return _carried(regions[::-1], count)[::-1]
    before = regions[0]
    gaps = regions[1:-1]
    behind = regions[-1]
    if key == "-":
        return [max(0, before - count), *_shortened(gaps, count), behind]
    if key == "#":
        return [before, *_shortened(gaps, count), max(0, behind - count)]
    return [before + count, *[size + count if size > 0 else 0 for size in gaps], behind]


def _carried(regions, count):
    """Return the regions after count moves towards the first one.

    Each move that finds a character carries one from the first region that has
    any to the last region: the cursors at the end stay, and all others move.
    """
    left = count
    sizes = []
    for size in regions[:-1]:
        taken = min(size, left)
        sizes.append(size - taken)
        left = left - taken
    return [*sizes, regions[-1] + count - left]


def _shortened(gaps, count):
    """Return the gaps after count removals at each cursor."""
    return [max(0, size - count) for size in gaps]


def _count_until_gone(regions, at, key):
    """Return how often the key is pressed until the gap regions[at] is gone, or None."""
    if key == "<":
        return sum(regions[:at + 1])
    if key == ">":
        return sum(regions[at:])
    if key in LETTERS:
        return None
    return regions[at]

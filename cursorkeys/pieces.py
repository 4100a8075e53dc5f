"""What a form leaves of the regions of a layout, in one round and in many.

A region is what stands left of the first cursor, between two neighbouring
cursors (a gap), or right of the last cursor.
"""

from cursorkeys.checks import check_index, check_layout, check_rounds
from cursorkeys.forms import check_form


def pieces_after(layout, form):
    """Return the pieces (start, length, typed) that are left of the regions."""
    check_layout(layout)
    check_form(form)
    before, gaps, behind = layout
    back, word, ahead, depth = form
    first = _piece(0, max(0, before - back), word)
    between = [_piece_of_gap(gap, form) for gap in gaps if gap > depth]
    return [first, *between, _piece(min(ahead, behind), behind, "")]


def layout_by_form(layout, form):
    """Return the layout after a key list with this form."""
    check_layout(layout)
    check_form(form)
    return _layout_after_rounds(layout, form, 1)


def rounds_layout(layout, form, rounds):
    """Return the layout after so many rounds of a key list with this form."""
    check_layout(layout)
    check_form(form)
    check_rounds(rounds)
    return _layout_after_rounds(layout, form, rounds)


def gone_after(layout, form, index):
    """Return the number of the first round behind which a gap is gone, or None."""
    check_layout(layout)
    check_form(form)
    check_index(index, len(layout[1]))
    return _last_round(layout[1][index], form)


def _piece(start, end, typed):
    """Return the piece with the characters from start to end and what is typed."""
    if start == end:
        return 0, 0, typed
    return start, end - start, typed


def _piece_of_gap(gap, form):
    """Return what is left of a gap that does not vanish.

    The cursor at its right end shortens it and types first; what the cursor at
    its left end removes may reach into the typed word.
    """
    back, word, ahead, _ = form
    end = gap - back
    return _piece(min(ahead, end), end, word[max(0, ahead - end):])


def _layout_after_rounds(layout, form, rounds):
    """Return the layout after so many rounds, all arguments valid."""
    before, gaps, behind = layout
    growth = _growth_of_gaps(form)
    ends = [(gap, _last_round(gap, form)) for gap in gaps]
    kept = [gap + rounds * growth for gap, last in ends if last is None or last > rounds]
    return _before_after_rounds(before, form, rounds), tuple(kept), max(0, behind - rounds * form[2])


def _before_after_rounds(before, form, rounds):
    """Return the number of characters left of the first cursor after the rounds.

    Each round leaves max(0, before - b) and adds len(T). So either no round runs
    out of characters, or the last one that does so leaves len(T) to those behind it.
    """
    if rounds == 0:
        return before
    back, word, _, _ = form
    growth = len(word) - back
    return max(before + rounds * growth, len(word) + max(0, (rounds - 1) * growth))


def _growth_of_gaps(form):
    """Return by how much a round makes each gap longer that does not vanish."""
    back, word, ahead, _ = form
    return len(word) - back - ahead


def _last_round(gap, form):
    """Return the number of the round in which a gap vanishes, or None."""
    depth = form[3]
    loss = -_growth_of_gaps(form)
    if gap <= depth:
        return 1
    if loss <= 0:
        return None
    # So many rounds, rounded up, shorten it to the depth; the next one removes it.
    return (gap - depth + loss - 1) // loss + 1

"""What the document says of the whole program: all modules together, on texts that are pressed."""

import unittest
from random import Random

from cursorkeys.editors import Editor
from cursorkeys.ends import first_difference, same_at_one
from cursorkeys.errors import CursorsMeet
from cursorkeys.fewest import fewest_keys, is_shortest, shortest_keys
from cursorkeys.forms import form_of, joined, keys_of, parting_layout, same_everywhere
from cursorkeys.keylists import Keys
from cursorkeys.kinds import OvertypeEditor, ShyEditor, ShyOvertypeEditor
from cursorkeys.layouts import cursors_after, layout_after, merge_key, runs_of
from cursorkeys.pieces import gone_after, layout_by_form, pieces_after, rounds_layout
from cursorkeys.pressing import layout_of, press_steps, pressed
from cursorkeys.reach import depth_of, far_effect, net_of, reach_of, same_far
from cursorkeys.texts import format_runs, format_state, parse_runs, parse_state
from plain import all_keys, plain_press, some_keys, some_state

# Letters that differ from each other and from a and b, which are typed here.
APART = "cdefghijklmnopqrstuvwxyzABCDEFGHIJKLMNOPQRSTUVWXYZ"
TYPED = "ab--##"
MOVING = "ab-#<>"


def state_with(layout):
    """Return a text of letters that are typed nowhere here, and its cursors with this layout."""
    before, gaps, behind = layout
    cursors = [before]
    for gap in gaps:
        cursors.append(cursors[-1] + gap)
    return (APART * 8)[:cursors[-1] + behind], tuple(cursors)


def shown(editor):
    return editor.text_now, editor.cursors_now


def ways_to_press(text, cursors, keys):
    """Return the state after the keys, by every way that the program has."""
    editor, other = Editor(text, cursors), Editor.read(format_state(text, cursors))
    editor.press(keys)
    other.press_all(keys[:5], "", keys[5:])
    return (
        pressed(text, cursors, keys), list(press_steps(text, cursors, keys))[-1], Keys(keys)(text, cursors),
        (Keys(keys[:3]) + Keys(keys[3:]))(text, cursors), editor.try_keys(""), shown(editor), shown(other),
        Editor(text, cursors).try_keys(keys), parse_state(format_state(*pressed(text, cursors, keys))),
    )


def by_far_effect(text, cursors, keys):
    """Return the state in which each cursor has acted by itself, as the far effect of the keys tells."""
    left, right, items, place = far_effect(keys)
    out = []
    places = []
    done = 0
    for at in cursors:
        assert done <= at - left
        out.extend(text[done:at - left])
        places.append(len(out) + place)
        out.extend(item if isinstance(item, str) else text[at + item] for item in items)
        done = at + right
    assert done <= len(text)
    return "".join(out) + text[done:], tuple(places)


def far_state(random, keys):
    """Return a text with cursors that are far from its ends and just so far from one another."""
    left, right = reach_of(keys)
    least = max(left + right, depth_of(keys) + 1)
    gaps = tuple(least + random.randrange(3) for _ in range(random.randrange(5)))
    layout = (left + random.randrange(3), gaps, right + random.randrange(3))
    cursors = state_with(layout)[1]
    size = cursors[-1] + layout[2]
    return "".join(random.choice(APART) for _ in range(size)), cursors


class Ways(unittest.TestCase):
    def test_all_ways_to_press_agree(self):
        random = Random(100)
        for _ in range(400):
            text, cursors = some_state(random, 14)
            keys = some_keys(random, 20)
            expected = plain_press(text, cursors, keys)
            for state in ways_to_press(text, cursors, keys):
                self.assertEqual(state, expected, (text, cursors, keys))

    def test_texts_of_300_characters(self):
        random = Random(101)
        text = "".join(random.choice(APART) for _ in range(300))
        for cursors in ((0, 300), tuple(range(0, 300, 15)), (0, 1, 2, 150, 299, 300), (7,)):
            for keys in ("".join(random.choice(MOVING) for _ in range(60)), "<" * 60, ">" * 60, "-#" * 30, "a" * 60):
                expected = plain_press(text, cursors, keys)
                for state in ways_to_press(text, cursors, keys):
                    self.assertEqual(state, expected)


class Layouts(unittest.TestCase):
    def test_the_layout_of_a_pressed_text_is_the_layout_after_the_runs_of_its_keys(self):
        random = Random(102)
        for _ in range(400):
            text, cursors = some_state(random, 14)
            keys = some_keys(random, 20)
            layout = layout_of(text, cursors)
            editor = Editor(text, cursors)
            self.assertEqual(editor.layout_now, layout)
            editor.press(keys)
            runs = runs_of(Keys(keys).written)
            self.assertEqual(parse_runs(format_runs(runs)), runs)
            self.assertEqual(layout_after(layout, runs), editor.layout_now)
            self.assertEqual(layout_after(layout, runs), layout_of(*Keys(keys)(text, cursors)))
            after = cursors_after(layout, runs)
            self.assertEqual(len(after), len(cursors))
            self.assertEqual(sorted(set(after)), list(range(len(editor.cursors_now))))

    def test_the_characters_do_not_matter(self):
        random = Random(103)
        for _ in range(200):
            text, cursors = some_state(random, 14)
            other = "".join(random.choice(APART) for _ in text)
            keys = some_keys(random, 20)
            changed = "".join("z" if key in "abc" else key for key in keys)
            self.assertEqual(layout_of(*pressed(text, cursors, keys)), layout_of(*pressed(other, cursors, changed)))

    def test_the_gap_that_is_gone_first_is_where_shy_cursors_meet(self):
        random = Random(104)
        met = 0
        for _ in range(300):
            text, cursors = some_state(random, 20)
            cursors = cursors[::random.randrange(1, 4)]
            keys = some_keys(random, 15)
            runs = parse_runs(format_runs(runs_of(keys)))
            merged = [merge_key(layout_of(text, cursors), runs, at) for at in range(len(cursors) - 1)]
            try:
                ShyEditor(text, cursors).press(keys)
            except CursorsMeet as error:
                met += 1
                self.assertEqual(error.key, min(number for number in merged if number is not None))
            else:
                self.assertEqual(merged, [None] * len(merged))
        self.assertGreater(met, 50)

    def test_kinds_that_overtype_press_a_removal_ahead_of_each_letter(self):
        random = Random(105)
        for _ in range(200):
            text, cursors = some_state(random, 20)
            keys = some_keys(random, 15)
            replaced = "".join("#" + key if key in APART + "ab" else key for key in keys)
            editor = OvertypeEditor(text, cursors)
            editor.press(keys)
            self.assertEqual(editor.layout_now, layout_after(layout_of(text, cursors), runs_of(replaced)))
            try:
                self.assertEqual(ShyOvertypeEditor(text, cursors).press(keys), len(cursors))
            except CursorsMeet:
                self.assertLess(len(editor.cursors_now), len(cursors))
            else:
                self.assertEqual(len(editor.cursors_now), len(cursors))


class FarFromTheEnds(unittest.TestCase):
    def check(self, text, cursors, keys):
        expected = by_far_effect(text, cursors, keys)
        self.assertEqual(pressed(text, cursors, keys), expected, (text, cursors, keys))
        self.assertEqual(Keys(keys)(text, cursors), expected)
        self.assertEqual(Editor(text, cursors).try_keys(keys), expected)
        if "a" not in keys and "b" not in keys:
            self.assertEqual(OvertypeEditor(text, cursors).try_keys(keys), expected)
        self.assertEqual(ShyEditor(text, cursors).press(keys), len(cursors))
        before, gaps, behind = layout_of(text, cursors)
        now = layout_of(*expected)
        self.assertEqual(now[1], tuple(gap + net_of(keys) for gap in gaps))
        self.assertEqual(now, layout_after((before, gaps, behind), runs_of(keys)))

    def test_each_cursor_acts_by_itself_all_small_lists(self):
        random = Random(106)
        for keys in all_keys(5):
            self.check(*far_state(random, keys), keys)

    def test_each_cursor_acts_by_itself_longer_lists(self):
        random = Random(107)
        for _ in range(400):
            keys = some_keys(random, 40, MOVING)
            self.check(*far_state(random, keys), keys)

    def test_exactly_the_gaps_up_to_the_depth_vanish(self):
        random = Random(108)
        for keys in all_keys(4) + [some_keys(random, 20, MOVING) for _ in range(60)]:
            depth = depth_of(keys)
            for gap in range(1, depth + 3):
                layout = (25, (gap, depth + 1, gap), 25)
                vanishing = 2 if gap <= depth else 0
                text, cursors = state_with(layout)
                editor = Editor(text, cursors)
                self.assertEqual(editor.press(keys), 4 - vanishing, (keys, layout))
                runs = runs_of(keys)
                for at, size in enumerate(layout[1]):
                    self.assertIs(merge_key(layout, runs, at) is None, size > depth)
                self.assertEqual(len(layout_after(layout, runs)[1]), 3 - vanishing)
                self.assertEqual(len(Keys(keys)(text, cursors)[1]), 4 - vanishing)
                self.assertEqual(editor.layout_now[1][0 if vanishing else 1], depth + 1 + net_of(keys))

    def test_lists_that_are_the_same_far_from_the_ends(self):
        random = Random(109)
        same = 0
        for _ in range(500):
            keys, other = some_keys(random, 5, MOVING), some_keys(random, 5, MOVING)
            if random.random() < 0.5:
                other = keys + random.choice(("<>", "a-", "><", "b<#", "a<->", "<a#-")) + some_keys(random, 1, MOVING)
            text, cursors = (APART * 2)[:40], (20,)
            equal = pressed(text, cursors, keys) == Editor(text, cursors).try_keys(other)
            self.assertIs(same_far(keys, other), equal, (keys, other))
            same += equal
        self.assertGreater(same, 50)


class WithoutMoves(unittest.TestCase):
    def from_pieces(self, layout, form, text, cursors):
        """Put the text and the cursors together again from the pieces of the regions."""
        depth = form[3]
        edges = [0, *cursors, len(text)]
        regions = [text[edges[k]:edges[k + 1]] for k in range(len(edges) - 1)]
        kept = [regions[0], *[region for region in regions[1:-1] if len(region) > depth], regions[-1]]
        out = ""
        ends = []
        for region, (start, length, typed) in zip(kept, pieces_after(layout, form), strict=True):
            out = out + region[start:start + length] + typed
            ends.append(len(out))
        return out, tuple(ends[:-1])

    def test_forms_and_pieces_and_layouts(self):
        random = Random(110)
        for _ in range(500):
            text, cursors = some_state(random, 20)
            cursors = cursors[::random.randrange(1, 4)]
            keys = some_keys(random, 14, TYPED)
            layout, form = layout_of(text, cursors), form_of(Keys(keys).written)
            editor = Editor(text, cursors)
            editor.press(keys)
            self.assertEqual(self.from_pieces(layout, form, text, cursors), shown(editor), (text, cursors, keys))
            self.assertEqual(shown(editor), Keys(keys)(text, cursors))
            self.assertEqual(layout_by_form(layout, form), editor.layout_now)
            self.assertEqual(Keys(keys_of(form))(text, cursors), shown(editor))
            self.assertEqual(form[3], depth_of(keys))

    def test_sums_and_products_of_keys_objects(self):
        random = Random(111)
        for _ in range(300):
            a, b = Keys(some_keys(random, 8, TYPED)), Keys(some_keys(random, 8, TYPED))
            form, more = form_of(a.written), form_of(b.written)
            self.assertEqual(form_of((a + b).written), joined(form, more))
            self.assertEqual(form_of((a * 3 + b).written), joined(form, form, form, more))

    def test_rounds(self):
        random = Random(112)
        for _ in range(200):
            text, cursors = some_state(random, 25)
            cursors = cursors[::random.randrange(1, 4)]
            keys = Keys(some_keys(random, 7, TYPED))
            layout, form = layout_of(text, cursors), form_of(keys.written)
            editor = Editor(text, cursors)
            left = list(range(len(layout[1])))
            gone = {}
            for number in range(1, 7):
                before = editor.layout_now
                followers = cursors_after(before, runs_of(keys.written))
                editor.press(keys.written)
                self.assertEqual(rounds_layout(layout, form, number), editor.layout_now)
                self.assertEqual(editor.try_keys(""), (keys * number)(text, cursors))
                gone.update({left[k]: number for k in range(len(left)) if followers[k] == followers[k + 1]})
                left = [at for at in left if at not in gone]
            for at in range(len(layout[1])):
                told = gone_after(layout, form, at)
                self.assertEqual(told if told is not None and told <= 6 else None, gone.get(at))
            self.assertEqual(len(editor), 6)
            for number in range(5, -1, -1):
                editor.undo()
                self.assertEqual(rounds_layout(layout, form, number), editor.layout_now)

    def test_same_everywhere_is_same_for_all_texts(self):
        random = Random(113)
        same = 0
        for _ in range(300):
            keys = some_keys(random, 8, TYPED)
            other = keys_of(form_of(keys)) if random.random() < 0.4 else some_keys(random, 8, TYPED)
            equal = same_everywhere(keys, other)
            same += equal
            self.assertIs(form_of(keys) == form_of(other), equal)
            self.assertIs(parting_layout(keys, other) is None, equal)
            for _ in range(10):
                text, cursors = some_state(random, 12)
                if equal:
                    self.assertEqual(Keys(keys)(text, cursors), Editor(text, cursors).try_keys(other))
        self.assertGreater(same, 60)


class Differences(unittest.TestCase):
    def check(self, layout, keys, other):
        """Assert that the two lists do not the same with this layout."""
        text, cursors = state_with(layout)
        self.assertNotEqual(pressed(text, cursors, keys), pressed(text, cursors, other))
        self.assertNotEqual(Keys(keys)(text, cursors), Keys(other)(text, cursors))
        self.assertNotEqual(Editor(text, cursors).try_keys(keys), Editor(text, cursors).try_keys(other))

    def test_first_difference_is_a_layout_for_which_pressed_differs(self):
        random = Random(114)
        found = 0
        for _ in range(300):
            keys = some_keys(random, 12, MOVING)
            at = random.randrange(len(keys) + 1)
            other = keys[:at] + random.choice(("<>", "><", "a-", "a<#", "-a", "<#", "ab--")) + keys[at:]
            layout = first_difference(keys, other)
            self.assertIs(same_at_one(keys, other), layout is None)
            if layout is None:
                for size in range(12):
                    text, place = APART[:size], (random.randrange(size + 1),)
                    self.assertEqual(Keys(keys)(text, place), Keys(other)(text, place))
            else:
                found += 1
                self.check((layout[0], (), layout[1]), keys, other)
        self.assertGreater(found, 100)
        self.assertLess(found, 300)

    def test_parting_layout_is_a_layout_for_which_pressed_differs(self):
        random = Random(115)
        for _ in range(300):
            keys, other = some_keys(random, 10, TYPED), some_keys(random, 10, TYPED)
            if random.random() < 0.5:
                other = "".join(random.sample(keys, len(keys)))
            layout = parting_layout(keys, other)
            if layout is None:
                self.assertIs(same_at_one(keys, other), True)
            else:
                self.check(layout, keys, other)

    def test_one_cursor_does_not_tell_all(self):
        self.assertIs(same_at_one("#a", "a#"), True)
        self.assertIs(same_everywhere("#a", "a#"), False)
        self.check(parting_layout("#a", "a#"), "#a", "a#")


class FewestKeys(unittest.TestCase):
    def test_the_shortest_list_leads_to_the_same(self):
        random = Random(116)
        for keys in all_keys(4) + [some_keys(random, 30, MOVING) for _ in range(200)]:
            effect = far_effect(keys)
            shortest = Keys(shortest_keys(effect))
            self.assertEqual(len(shortest), fewest_keys(effect))
            self.assertLessEqual(len(shortest), len(keys))
            self.assertIs(is_shortest(keys), len(shortest) == len(keys))
            self.assertIs(is_shortest(shortest.written), True)
            self.assertIs(same_far(keys, shortest.written), True)
            text, cursors = (APART * 2)[:80], (40,)
            expected = pressed(text, cursors, keys)
            self.assertEqual(shortest(text, cursors), expected)
            self.assertEqual(Editor(text, cursors).try_keys(shortest.written), expected)


class NewValues(unittest.TestCase):
    def test_no_two_returned_lists_are_the_same_object(self):
        editor = Editor("abc", (1, 3))
        layout, runs, form = (2, (1, 3), 4), (("-", 1),), (1, "x", 0, 1)
        for make in (
            editor.told, OvertypeEditor().told, ShyEditor().told, ShyOvertypeEditor().told,
            lambda: cursors_after(layout, runs), lambda: pieces_after(layout, form),
        ):
            first = make()
            kept = list(first)
            second = make()
            self.assertIsNot(first, second)
            first.clear()
            second.append("more")
            self.assertEqual(make(), kept)

    def test_what_is_returned_may_be_passed_back(self):
        keys = Keys("ab") * 150
        editor = Editor(*keys("", (0,)))
        for _ in range(5):
            editor.press(keys.written)
        self.assertEqual(editor.text_now, "ab" * 900)
        state = parse_state(format_state(editor.text_now, editor.cursors_now))
        self.assertEqual(shown(Editor.read(format_state(*state))), shown(editor))
        self.assertEqual(layout_of(*state), editor.layout_now)
        self.assertEqual(editor.press(shortest_keys((299, 0, (), 0))), 1)
        self.assertEqual(len(editor.text_now), 1501)


if __name__ == "__main__":
    unittest.main()

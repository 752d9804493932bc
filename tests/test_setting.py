"""Lines set to a measure: points 8.1 to 8.5, and where a line lies (points 7.2 and 7.3)."""

import random
import unittest

from galleypapers.setting import glue_widths, moved, natural, set_line, set_lines, shares
from tests.helper import call, may_end

END = ("penalty", 0, -10000, False, [])
SOFT = "-\n"


def box(wide, *more):
    """A box with one row of one glyph, and perhaps a height, a depth and notes."""
    height, depth, notes = [*more, *(0, 0, ())[len(more):]]
    return ("box", wide, height, depth, [(0, "text", ["a"])], notes)


def pen(wide, cost=0, rows=()):
    return ("penalty", wide, cost, False, list(rows))


def left_parts(items, before, at):
    """The items of a line, straight from point 7.3."""
    line = list(items[before + 1:at])
    while line and not (line[0][0] == "box" or line[0][0] == "penalty" and line[0][2] == -10000):
        del line[0]
    return line


def slow_set(items, before, at, measure):
    """A set line, each part placed by the exact sum of all glue ahead of it."""
    line = left_parts(items, before, at)
    end = items[at]
    added = end[1] if end[0] == "penalty" else 0
    gap = measure - added - sum(item[1] for item in line if item[0] != "penalty")
    part = 2 if gap >= 0 else 3
    total = sum(item[part] for item in line if item[0] == "glue")
    amount = gap if gap >= 0 else -min(-gap, total)

    def place(k):
        natural_place = sum(item[1] for item in line[:k] if item[0] != "penalty")
        ahead = sum(item[part] for item in line[:k] if item[0] == "glue")
        share = abs(amount) * ahead // total if total else 0
        return natural_place + (share if amount >= 0 else -share)

    rows = [(place(k) + x, use, glyphs) for k, item in enumerate(line) if item[0] == "box" for x, use, glyphs in item[4]]
    if end[0] == "penalty":
        rows += [(place(len(line)) + x, use, glyphs) for x, use, glyphs in end[4]]
    boxes = [item for item in line if item[0] == "box"]
    notes = tuple(note for item in boxes for note in item[5])
    return ("set", rows, place(len(line)) + added, max([item[2] for item in boxes] + [0]),
            max([item[3] for item in boxes] + [0]), notes)


def some_rows(chance):
    return [(chance.randint(-2, 5), chance.choice(["text", "note"]), chance.choice([["a"], ["b", SOFT], []]))
            for _ in range(chance.choice([0, 1, 1, 2]))]


def some_items(chance):
    items = []
    for _ in range(chance.randint(0, 10)):
        kind = chance.choice(["box", "box", "box", "glue", "glue", "glue", "penalty"])
        if kind == "box":
            notes = tuple(chance.randint(-3, 9) for _ in range(chance.choice([0, 0, 1, 2])))
            items.append(("box", chance.randint(0, 9), chance.randint(0, 9), chance.randint(0, 9), some_rows(chance), notes))
        elif kind == "glue":
            wide = chance.randint(0, 9)
            items.append(("glue", wide, chance.choice([0, 1, 3, 10]), chance.randint(0, wide)))
        else:
            items.append(("penalty", chance.randint(0, 4), chance.choice([0, 9999, 10000, -10000]), False, some_rows(chance)))
    return items + [("penalty", chance.choice([0, 3]), -10000, False, some_rows(chance))]


class TestExamples(unittest.TestCase):
    def test_examples(self):
        self.assertEqual(call(self, shares, [1, 1, 1], 8), [2, 3, 3])
        words = [("box", width, 7, 0, [(0, "text", [glyph])], ()) for width, glyph in [(4, "a"), (5, "b"), (4, "c")]]
        items = [words[0], ("glue", 3, 2, 1), words[1], ("glue", 3, 2, 1), words[2], ("penalty", 0, -10000, False, [])]
        self.assertEqual(
            call(self, set_line, items, -1, 5, 22),
            ('set', [(0, 'text', ['a']), (8, 'text', ['b']), (18, 'text', ['c'])], 22, 7, 0, ()))
        self.assertEqual(call(self, set_line, items, -1, 5, 10)[2], 17)

    def test_kinds_of_values(self):
        answer = set_line([box(3, 1, 1, (4,)), END], -1, 1, 9)
        self.assertEqual([type(part) for part in answer], [str, list, int, int, int, tuple])
        self.assertIs(type(answer), tuple)
        self.assertIs(type(answer[1][0]), tuple)
        self.assertIs(type(natural([END], -1, 0)), tuple)
        self.assertEqual([type(shares([1], 1)), type(glue_widths([(1, 1, 1)], 1))], [list, list])


class TestShares(unittest.TestCase):
    """Point 8.2."""

    def test_nothing_to_share_among(self):
        self.assertEqual(call(self, shares, [], 5), [])
        self.assertEqual(call(self, shares, [0, 0], 5), [0, 0])
        self.assertEqual(shares([0], 0), [0])
        self.assertEqual(shares([3, 2], 0), [0, 0])

    def test_sums_are_rounded_down(self):
        self.assertEqual(shares([1, 2, 3], 7), [1, 2, 4])
        self.assertEqual(shares([0, 1, 0, 1, 0], 3), [0, 1, 0, 2, 0])
        self.assertEqual(shares([1] * 5, 3), [0, 1, 0, 1, 1])
        self.assertEqual(shares([5], 10 ** 40), [10 ** 40])

    def test_first_shares_together(self):
        chance = random.Random(82)
        for _ in range(300):
            parts = [chance.choice([0, 1, 2, 7, 100]) for _ in range(chance.randint(0, 6))]
            amount = chance.choice([0, 1, 5, 17, 10 ** 12])
            told = call(self, shares, parts, amount)
            self.assertEqual(len(told), len(parts))
            for k in range(len(parts) + 1):
                whole = sum(parts)
                self.assertEqual(sum(told[:k]), amount * sum(parts[:k]) // whole if whole else 0)


class TestNatural(unittest.TestCase):
    """Points 7.2 and 7.3."""

    def test_parts_of_a_line(self):
        items = [box(4), ("glue", 3, 2, 1), box(5), pen(7), ("glue", 9, 8, 6), box(2), END]
        self.assertEqual(call(self, natural, items, -1, 1), (4, 0, 0))
        self.assertEqual(natural(items, -1, 3), (19, 2, 1))
        self.assertEqual(natural(items, -1, 4), (12, 2, 1))
        self.assertEqual(natural(items, -1, 6), (23, 10, 7))
        self.assertEqual(natural(items, 1, 3), (12, 0, 0))
        self.assertEqual(natural(items, 1, 6), (16, 8, 6))
        self.assertEqual(natural(items, 3, 6), (2, 0, 0))

    def test_what_falls_away_at_the_beginning(self):
        items = [("glue", 3, 2, 1), pen(4), ("glue", 9, 8, 6), box(2), ("glue", 3, 2, 1), END]
        self.assertEqual(natural(items, -1, 5), (5, 2, 1))
        self.assertEqual(natural(items, -1, 1), (4, 0, 0))

    def test_nothing_falls_away_behind_a_forced_end(self):
        items = [box(2), pen(0), ("glue", 3, 2, 1), pen(5, -10000), ("glue", 7, 6, 4), box(2), END]
        self.assertEqual(natural(items, 1, 3), (5, 0, 0))
        self.assertEqual(natural(items, 3, 6), (2, 0, 0))
        # Between two breaks that leave a forced one out, the glue behind it stays.
        self.assertEqual(natural(items, 1, 6), (9, 6, 4))
        items[3] = pen(5, -9999)
        self.assertEqual(natural(items, 1, 6), (2, 0, 0))

    def test_short_items(self):
        items = [("box", 4), ("glue", 3, 2, 1), ("box", 5), ("penalty", 6, -10000, True)]
        self.assertEqual(natural(items, -1, 3), (18, 2, 1))
        self.assertEqual(natural(items, -1, 1), (4, 0, 0))
        self.assertEqual(natural([("penalty", 6, -10000, True)], -1, 0), (6, 0, 0))


class TestGlueWidths(unittest.TestCase):
    """Point 8.3."""

    def test_wider(self):
        gaps = [(3, 2, 1), (5, 0, 4), (4, 1, 0)]
        self.assertEqual(call(self, glue_widths, gaps, 0), [3, 5, 4])
        self.assertEqual(call(self, glue_widths, gaps, 7), [7, 5, 7])
        self.assertEqual(glue_widths(gaps, 300), [203, 5, 104])

    def test_narrower(self):
        gaps = [(3, 2, 1), (5, 0, 4), (4, 1, 0)]
        self.assertEqual(call(self, glue_widths, gaps, -3), [3, 2, 4])
        self.assertEqual(glue_widths(gaps, -4), [3, 1, 4])
        self.assertEqual(glue_widths(gaps, -5), [2, 1, 4])
        self.assertEqual(glue_widths(gaps, -6), [2, 1, 4])
        self.assertEqual(glue_widths(gaps, -10 ** 9), [2, 1, 4])

    def test_no_room(self):
        self.assertEqual(glue_widths([], 5), [])
        self.assertEqual(glue_widths([], -5), [])
        self.assertEqual(glue_widths([(3, 0, 2)], 5), [3])
        self.assertEqual(glue_widths([(3, 2, 0)], -5), [3])


class TestSetLine(unittest.TestCase):
    """Points 8.1 and 8.3 to 8.5."""

    def widths(self, gaps, measures):
        """The widths in the end of a line of three boxes of together 6 with two gaps."""
        items = [box(2), gaps[0], box(2), gaps[1], box(2), END]
        return [call(self, set_line, items, -1, 5, measure)[2] for measure in measures]

    def test_exact_or_not(self):
        gaps = [("glue", 4, 3, 2), ("glue", 4, 0, 1)]
        self.assertEqual(self.widths(gaps, [9, 10, 11, 12, 13, 14, 15, 99]), [11, 11, 11, 12, 13, 14, 15, 99])
        gaps = [("glue", 4, 0, 0), ("glue", 4, 0, 0)]
        self.assertEqual(self.widths(gaps, [0, 13, 14, 15]), [14, 14, 14, 14])

    def test_end_of_a_line(self):
        rows = [(1, "text", [SOFT]), (3, "note", ["x"])]
        items = [box(4), ("glue", 3, 2, 1), box(5), pen(6, 50, rows), ("glue", 3, 2, 1), box(1), END]
        self.assertEqual(
            call(self, set_line, items, -1, 3, 20),
            ("set", [(0, "text", ["a"]), (9, "text", ["a"]), (15, "text", [SOFT]), (17, "note", ["x"])], 20, 0, 0, ()))
        # Within a line and at a glue the penalty has neither a width nor rows.
        self.assertEqual(
            call(self, set_line, items, -1, 4, 12)[1:3], ([(0, "text", ["a"]), (7, "text", ["a"])], 12))
        self.assertEqual(
            set_line(items, 1, 6, 9)[1:3], ([(0, "text", ["a"]), (8, "text", ["a"])], 9))

    def test_lines_without_boxes(self):
        items = [box(4), pen(0), ("glue", 3, 2, 1), pen(6, 0, [(1, "text", [SOFT])]), ("glue", 3, 2, 1), END]
        self.assertEqual(call(self, set_line, items, 1, 3, 20), ("set", [(1, "text", [SOFT])], 6, 0, 0, ()))
        self.assertEqual(set_line(items, 3, 5, 20), ("set", [], 0, 0, 0, ()))
        self.assertEqual(set_line([END], -1, 0, 20), ("set", [], 0, 0, 0, ()))

    def test_glue_behind_a_forced_end(self):
        items = [box(2), pen(0), ("glue", 3, 2, 1), pen(5, -10000, [(0, "text", ["b"])]), ("glue", 7, 6, 4), box(2), END]
        self.assertEqual(call(self, set_line, items, 1, 6, 12), ("set", [(10, "text", ["a"])], 12, 0, 0, ()))

    def test_places_of_rows(self):
        first = ("box", 4, 1, 2, [(0, "text", ["a"]), (3, "note", ["b", "c"])], ())
        empty = ("box", 4, 1, 2, [], ())
        items = [box(1), first, empty, first, END]
        self.assertEqual(
            call(self, set_line, items, -1, 4, 13)[1],
            [(0, "text", ["a"]), (1, "text", ["a"]), (4, "note", ["b", "c"]), (9, "text", ["a"]), (12, "note", ["b", "c"])])

    def test_sizes_and_notes(self):
        items = [box(1, 9, 9, (5,)), pen(0), box(1, 3, 1, (7, -2)), ("glue", 1, 1, 1), box(1, 2, 4), box(0, 0, 0, (6,)),
                 ("glue", 1, 1, 1), box(1, 9, 9, (8,)), END]
        self.assertEqual(call(self, set_line, items, 1, 6, 3)[3:], (3, 4, (7, -2, 6)))
        self.assertEqual(set_line(items, -1, 8, 3)[3:], (9, 9, (5, 7, -2, 6, 8)))

    def test_random_lines(self):
        chance = random.Random(85)
        for _ in range(1500):
            items = some_items(chance)
            ends = [-1] + [at for at in range(len(items)) if may_end(items, at)]
            before, at = sorted(chance.sample(ends, 2))
            measure = chance.randint(0, 80)
            told = call(self, set_line, items, before, at, measure)
            self.assertEqual(told, slow_set(items, before, at, measure), (items, before, at, measure))
            wide, stretch, shrink = call(self, natural, items, before, at)
            gap = measure - wide
            if gap == 0 or gap > 0 and stretch > 0 or gap < 0 <= gap + shrink:
                self.assertEqual(told[2], measure)
            else:
                self.assertEqual(told[2], wide if gap > 0 else wide - shrink)
            line = [item for item in left_parts(items, before, at) if item[0] == "glue"]
            self.assertEqual((stretch, shrink), (sum(item[2] for item in line), sum(item[3] for item in line)))

    def test_moved(self):
        self.assertEqual(call(self, moved, [(3, "text", ["a"]), (-1, "note", [])], 4), [(7, "text", ["a"]), (3, "note", [])])

    def test_lines_between_breaks(self):
        items = [box(4), ("glue", 3, 2, 1), box(5), pen(6, 50, [(0, "text", [SOFT])]), ("glue", 3, 2, 1), box(1), END]
        self.assertEqual(
            call(self, set_lines, items, [1, 3, 6], 12),
            [set_line(items, -1, 1, 12), set_line(items, 1, 3, 12), set_line(items, 3, 6, 12)])
        self.assertEqual(set_lines(items, [6], 12), [set_line(items, -1, 6, 12)])


if __name__ == "__main__":
    unittest.main()

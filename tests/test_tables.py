"""Tables: points 17.1 to 17.6."""

import itertools
import random
import unittest

from galleypapers.errors import BreakError, GalleyError, GlyphError, TableError
from galleypapers.fonts import SOFT
from galleypapers.items import items_of
from galleypapers.setting import moved, set_line
from galleypapers.styles import line_costs
from galleypapers.tables import column_gap, row_made, table_cost, table_widths, unit_of, widths_fit
from tests.helper import call, fault, slow_breaks
from tests.test_styles import PENALTIES, style

LETTERS = {sign: (10, 7, 2) for sign in "abcdefghijklmnop"}
# The numbers of notes differ in width, so it can be told from lines how notes are numbered.
DIGITS = {sign: (wide, 4, 0) for wide, sign in [(4, "1"), (25, "2"), (6, "3"), (6, "4"), (6, "5"), (6, "6"), (6, "0")]}
MARKS = {"-": (5, 3, 0), SOFT: (5, 3, 0), "H": (10, 20, 0), "Q": (10, 5, 9)}
TEXT = ("font", "plain", {**LETTERS, **MARKS}, {})
STRONG = ("font", "bold", {sign: (12, height + 1, depth) for sign, (_, height, depth) in TEXT[2].items()}, {})
NOTE = ("font", "tiny", {**DIGITS, SOFT: (1, 1, 0)}, {})
FONTS = {"text": TEXT, "strong": STRONG, "note": NOTE, "head1": TEXT, "head2": TEXT}
PATTERNS = ("hyphens", ["a1b", "b1c", "a1a"], ["ab-c"], 1, 1)


def its_style(**parts):
    """A style with column gaps of 8, in which words, spaces and notes have plain widths."""
    whole = {"fonts": FONTS, "space": (4, 4, 1), "tolerance": 10000, "hyphens": PATTERNS, "measure": 80,
             "penalties": {**{name: 0 for name in PENALTIES}, "hyphen": 50, "line": 10}}
    whole.update(parts)
    return style(**whole)


STYLE = its_style()


def text(signs, use="text"):
    return ("text", use, signs)


def cell(signs):
    return [text(signs)] if signs else []


def table(*rows):
    """A table whose cells are texts alone, one string for a row, with | between two cells."""
    return [[cell(signs) for signs in row.split("|")] for row in rows]


def measure_for(columns, unit):
    """The measure with which the grid for some columns has a unit."""
    return 8 * unit + 8 * (columns - 1)


def slow_lines(its_style, runs, wide, first_note):
    """The set lines of a cell, or None, with breaks found by trying all."""
    plain = (*its_style[:11], ("hyphens", [], [], 1, 1))
    items, notes = items_of(plain, runs, "", 0, first_note)
    told = slow_breaks(items, wide, its_style[7], line_costs(its_style))
    if told is None:
        return None
    return [set_line(items, before, at, wide) for before, at in zip([-1, *told[1]], told[1])], notes


def slow_cost(its_style, rows, widths):
    """The cost of a table, or None."""
    total = 0
    for cells in rows:
        made = [slow_lines(its_style, runs, wide, 1) for runs, wide in zip(cells, widths)]
        if None in made:
            return None
        total += max(len(lines) for lines, _ in made)
    return total


def grid(its_style, columns):
    """All widths on the grid, ascending."""
    unit = (its_style[2] - 2 * its_style[6][0] * (columns - 1)) // 8
    return [[unit * many for many in units] for units in itertools.product(range(1, 9), repeat=columns)
            if sum(units) == 8]


def slow_row(its_style, cells, widths, first_note):
    """The lines and notes of a row, or None."""
    made, notes = [], []
    for runs, wide in zip(cells, widths):
        told = slow_lines(its_style, runs, wide, first_note + len(notes))
        if told is None:
            return None
        made.append(told[0])
        notes += told[1]
    lines = []
    gap = 2 * its_style[6][0]
    for at in range(max(map(len, made))):
        parts = [(k, lines_of[at]) for k, lines_of in enumerate(made) if at < len(lines_of)]
        rows = [row for k, part in parts for row in moved(part[1], sum(widths[:k]) + k * gap)]
        its_notes = tuple(note for _, part in parts for note in part[5])
        lines.append(("set", rows, sum(widths) + gap * (len(widths) - 1), max(part[3] for _, part in parts),
                      max(part[4] for _, part in parts), its_notes))
    return lines, notes


def some_cell(chance):
    runs = []
    for _ in range(chance.choice([0, 1, 1, 2])):
        words = ["".join(chance.choice("abc-") for _ in range(chance.randint(1, 3))) for _ in range(chance.randint(1, 2))]
        runs.append(text(" ".join(words), chance.choice(["text", "strong"])))
        runs.append(chance.choice([("tie",), text(" "), ("note", [text("a")]), ("mark", "x"), text(" ")]))
    return runs


class TestGrid(unittest.TestCase):
    """Point 17.2."""

    def test_column_gap(self):
        self.assertEqual(call(self, column_gap, STYLE), 8)
        self.assertEqual(column_gap(its_style(space=(5, 99, 3))), 10)

    def test_unit(self):
        for measure, columns, unit in [(80, 1, 10), (87, 1, 10), (88, 1, 11), (79, 1, 9), (80, 2, 9), (88, 2, 10),
                                       (80, 3, 8), (80, 5, 6), (112, 5, 10), (8, 1, 1), (7, 1, 0), (16, 2, 1), (15, 2, 0),
                                       (8, 2, 0), (7, 2, -1), (1, 5, -4)]:
            self.assertEqual(call(self, unit_of, its_style(measure=measure, indent=0), columns), unit)

    def test_widths_on_the_grid(self):
        for measure, widths, right in [
                (80, [80], True), (80, [70], False), (80, [90], False), (87, [80], True), (87, [87], False), (80, [8], False),
                (88, [10, 70], True), (88, [70, 10], True), (88, [40, 40], True), (88, [80, 0], False),
                (88, [0, 80], False), (88, [45, 35], False), (88, [40, 30], False), (88, [40, 50], False),
                (88, [90, -10], False), (88, [-10, 90], False), (95, [40, 40], True), (95, [45, 45], False),
                (88, [1, 7], False), (96, [10, 10, 60], True), (96, [20, 20, 40], True), (96, [10, 10, 10], False),
                (112, [10, 10, 10, 10, 40], True), (112, [20, 20, 20, 10, 10], True), (112, [20, 20, 20, 20, 0], False),
                (112, [16] * 5, False), (7, [0], False), (7, [7], False), (8, [8], True), (15, [0, 0], False),
                (15, [4, 4], False), (7, [-1, -7], False), (7, [-4, -4], False)]:
            with self.subTest((measure, widths)):
                self.assertIs(call(self, widths_fit, its_style(measure=measure, indent=0), widths), right)

    def test_all_widths(self):
        for columns in range(1, 6):
            wide = its_style(measure=8 * columns - 8 + 8 * 2, indent=0)
            told = [list(widths) for widths in itertools.product(range(-1, 17), repeat=columns if columns < 4 else 0)
                    if widths and widths_fit(wide, list(widths))]
            if columns < 4:
                self.assertEqual(told, grid(wide, columns))
            for widths in grid(wide, columns):
                self.assertIs(widths_fit(wide, widths), True)


class TestCells(unittest.TestCase):
    """Point 17.3."""

    def lines(self, signs, wide, **parts):
        """The lines of one cell, each as the texts of its rows."""
        lines, _ = call(self, row_made, its_style(**parts), [cell(signs)], [wide], 0)
        return [" ".join(["".join(glyphs) for _, _, glyphs in line[1]]) for line in lines]

    def test_words_are_not_divided_by_patterns(self):
        # Paragraphs of the style would be divided between a and b.
        items, _ = items_of(STYLE, cell("ab"), "", 0, 1)
        self.assertEqual(len([item for item in items if item[0] == "box"]), 3)
        self.assertEqual(self.lines("ab ab", 24), ["ab", "ab"])
        self.assertEqual(fault(self, BreakError, row_made, STYLE, [cell("aaabc")], [49], 0).at, -1)
        self.assertEqual(fault(self, BreakError, row_made, STYLE, [cell("abc")], [29], 0).at, -1)

    def test_words_are_divided_behind_a_hyphen(self):
        self.assertEqual(self.lines("ab-ab", 44), ["ab-", "ab"])
        self.assertEqual(self.lines("ab-ab", 45), ["ab- ab"])
        self.assertEqual(self.lines("ab-ab-c", 25), ["ab-", "ab-", "c"])

    def test_no_indent(self):
        self.assertEqual(self.lines("abc", 30, indent=40), ["abc"])

    def test_uses(self):
        runs = [text("a"), text("a", "strong"), ("note", [text("b")]), ("mark", "x")]
        lines, notes = row_made(STYLE, [runs], [50], 1)
        self.assertEqual(lines, [("set", [(0, "text", ["a"]), (10, "strong", ["a"]), (22, "note", ["1"])], 50, 8, 2, (1, -1))])
        self.assertEqual(notes, [(1, [text("b")])])

    def test_tolerance_and_costs(self):
        # At the width 40 the line with one word is bad beyond all tolerance.
        for wide, told in [(29, None), (30, ["abc", "abc"]), (31, None), (40, None), (62, None), (63, ["abc abc"]),
                           (64, ["abc abc"]), (90, ["abc abc"])]:
            with self.subTest(wide):
                if told is None:
                    fault(self, BreakError, row_made, its_style(tolerance=0), [cell("abc abc")], [wide], 0)
                    self.assertIsNone(table_cost(its_style(tolerance=0), table("abc abc"), [wide]))
                else:
                    self.assertEqual(self.lines("abc abc", wide, tolerance=0), told)

    def test_penalties(self):
        plain = {**{name: 0 for name in PENALTIES}, "line": 10}
        for name, cost, signs, wide, told, other in [
                ("hyphen", 1000, "b-b c", 27, ["b-", "b c"], ["b- b", "c"]),
                ("fitness", 10000, "a-c c b", 27, ["a- c", "c b"], ["a-", "c c", "b"]),
                ("line", 10000, "c a a c a", 62, ["c a a c", "a"], ["c a a c a"])]:
            with self.subTest(name):
                self.assertEqual(self.lines(signs, wide, penalties=plain), told)
                self.assertEqual(self.lines(signs, wide, penalties={**plain, name: cost}), other)

    def test_cells_without_words(self):
        for runs in [[], [text("  ")], [("tie",)]]:
            lines, notes = call(self, row_made, STYLE, [runs], [50], 0)
            self.assertEqual((lines, notes), ([("set", [], 50, 0, 0, ())], []))
            self.assertEqual(table_cost(STYLE, [[runs]], [50]), 1)
        # The width is so great that the glue at the end would be stretched too far.
        wide = 10000000
        self.assertEqual(table_cost(its_style(tolerance=100), [[[]]], [wide]), 1)
        self.assertIsNone(table_cost(its_style(tolerance=99), [[[]]], [wide]))
        told = its_style(tolerance=99, measure=wide)
        self.assertEqual(fault(self, TableError, table_widths, told, [[[]]]).at, 0)
        self.assertEqual(table_widths(its_style(tolerance=100, measure=wide), [[[]]]), [wide])
        fault(self, BreakError, row_made, told, [[]], [wide], 0)


class TestCosts(unittest.TestCase):
    """Point 17.4."""

    def test_sum_of_the_longest_cells(self):
        rows = table("a|a b c|b", "a b|a|b", "||")
        self.assertEqual(call(self, table_cost, STYLE, rows, [10, 10, 10]), 3 + 2 + 1)
        self.assertEqual(table_cost(STYLE, rows, [30, 30, 10]), 2 + 1 + 1)
        self.assertEqual(table_cost(STYLE, rows, [24, 38, 10]), 1 + 1 + 1)
        self.assertEqual(table_cost(STYLE, rows, [23, 38, 10]), 1 + 1 + 1)
        self.assertEqual(table_cost(STYLE, rows, [22, 38, 10]), 1 + 2 + 1)

    def test_no_cost(self):
        rows = table("a|abc", "abc|a")
        self.assertEqual(table_cost(STYLE, rows, [30, 30]), 2)
        self.assertIsNone(table_cost(STYLE, rows, [29, 30]))
        self.assertIsNone(table_cost(STYLE, rows, [30, 29]))

    def test_widths_beside_the_grid(self):
        self.assertEqual(table_cost(its_style(measure=1, indent=0), table("a|a"), [10, 1000]), 1)
        self.assertIsNone(table_cost(STYLE, table("a|a"), [1, 1]))

    def test_notes_of_each_cell_from_1_on(self):
        note = ("note", [])
        rows = [[[text("a"), note], [text("a"), note]], [[note], [note]]]
        self.assertEqual(call(self, table_cost, STYLE, rows, [14, 14]), 2)
        self.assertIsNone(table_cost(STYLE, rows, [13, 14]))
        # The second note of a cell is 25 wide.
        self.assertIsNone(table_cost(STYLE, [[[note, note]]], [28]))
        self.assertEqual(table_cost(STYLE, [[[note, note]]], [29]), 1)

    def test_glyphs(self):
        self.assertEqual(fault(self, GlyphError, table_cost, STYLE, table("a|axa"), [10, 90]).at, 1)


class TestBestWidths(unittest.TestCase):
    """Point 17.5."""

    def test_least_cost_and_least_list(self):
        for columns, unit, rows, widths in [
                (1, 10, table("a b"), [80]), (2, 10, table("a|a"), [10, 70]), (2, 10, table("ab|a"), [20, 60]),
                (2, 10, table("ab|a b c d e f"), [20, 60]),
                (2, 10, table("a b c|a"), [40, 40]), (2, 10, table("a b c|abcabc"), [10, 70]), (2, 10, table("a b c|abcab"), [30, 50]),
                (2, 10, table("a|abcabca"), [10, 70]), (2, 10, table("abcabca|a"), [70, 10]),
                (3, 10, table("a|a|a"), [10, 10, 60]), (3, 10, table("a|ab|a"), [10, 20, 50]),
                (3, 10, table("a|a|a b c", "a b|a|a"), [30, 10, 40]),
                (5, 10, table("a|a|a|a|a"), [10, 10, 10, 10, 40]), (5, 10, table("abcd|a|a|a|a"), [40, 10, 10, 10, 10]),
                (4, 10, table("ab|ab|ab|ab"), [20, 20, 20, 20])]:
            with self.subTest(rows):
                told = its_style(measure=measure_for(columns, unit))
                self.assertEqual(call(self, table_widths, told, rows), widths)
                self.assertIs(widths_fit(told, widths), True)

    def test_unit(self):
        told = its_style(measure=measure_for(2, 10) + 7)
        self.assertEqual(table_widths(told, table("a|a")), [10, 70])
        told = its_style(measure=measure_for(2, 1), indent=0)
        self.assertEqual(table_widths(told, table("|")), [1, 7])
        for measure in [measure_for(2, 1) - 1, measure_for(2, 0), measure_for(2, 0) - 1, 1]:
            told = its_style(measure=measure, indent=0)
            self.assertEqual(fault(self, TableError, table_widths, told, table("|")).at, -1)
            # This error comes ahead of all others.
            self.assertEqual(fault(self, TableError, table_widths, told, table("abcabcabc|x")).at, -1)
        self.assertTrue(issubclass(TableError, GalleyError))

    def test_columns_that_cannot_be_broken(self):
        for columns, rows, at in [
                (1, table("abcabcabc"), 0), (1, table("a", "abcabcabc"), 0), (2, table("abcabcab|a"), 0),
                (2, table("a|abcabcab"), 1), (2, table("a|abcabcab", "abcabcab|a"), 0), (2, table("abcab|abcab"), 2),
                (2, table("abcabca|ab"), 2), (3, table("a|abcabc|abcabca"), 2), (3, table("a|abcabc|ab"), 3),
                (3, table("a|a|abcabca", "a|abcabca|a"), 1), (5, table("a|a|a|a|abcab"), 4), (5, table("a|ab|ab|ab|ab"), 5),
                (4, table("a|a|a|abcabc"), 3), (4, table("ab|ab|ab|abc"), 4)]:
            with self.subTest(rows):
                told = its_style(measure=measure_for(columns, 10))
                self.assertEqual(fault(self, TableError, table_widths, told, rows).at, at)

    def test_a_cell_that_cannot_be_broken_at_the_greatest_width(self):
        # Without tolerance two words stand in one line from 63 on, and below that at 30 alone.
        told = its_style(measure=measure_for(3, 10), tolerance=0)
        self.assertEqual(table_widths(told, table("abc abc|a|a")), [30, 10, 40])
        told = its_style(measure=measure_for(3, 10), tolerance=0)
        self.assertEqual(fault(self, TableError, table_widths, told, table("a|abc abc|abcde")).at, 1)
        self.assertEqual(table_widths(told, table("a|abc abc|abcd")), [10, 30, 40])

    def test_glyphs(self):
        self.assertEqual(fault(self, GlyphError, table_widths, STYLE, table("a|axa")).at, 1)

    def test_random_tables(self):
        chance = random.Random(175)
        wrong = 0
        for _ in range(120):
            columns = chance.choice([1, 2, 2, 3, 4])
            rows = [[some_cell(chance) for _ in range(columns)] for _ in range(chance.choice([1, 1, 2]))]
            tolerance = chance.choice([10000, 10000, 9999, 500])
            told = its_style(measure=measure_for(columns, chance.choice([6, 9, 12])), tolerance=tolerance)
            costs = [slow_cost(told, rows, widths) for widths in grid(told, columns)]
            for widths, cost in chance.sample(list(zip(grid(told, columns), costs)), min(3, len(costs))):
                self.assertEqual(call(self, table_cost, told, rows, widths), cost)
            if [cost for cost in costs if cost is not None]:
                least = min(cost for cost in costs if cost is not None)
                self.assertEqual(call(self, table_widths, told, rows), grid(told, columns)[costs.index(least)], rows)
            else:
                wrong += 1
                most = unit_of(told, columns) * (9 - columns)
                narrow = [column for column in range(columns)
                          if [row for row in rows if slow_lines(told, row[column], most, 1) is None]]
                self.assertEqual(fault(self, TableError, table_widths, told, rows).at, (narrow + [columns])[0])
        self.assertTrue(10 < wrong < 80, wrong)


class TestRows(unittest.TestCase):
    """Point 17.6."""

    def test_places(self):
        lines, notes = call(self, row_made, STYLE, [cell("a b"), cell("c"), cell("d e f")], [12, 31, 24], 0)
        self.assertEqual(notes, [])
        self.assertEqual(lines, [
            ("set", [(0, "text", ["a"]), (20, "text", ["c"]), (59, "text", ["d"]), (73, "text", ["e"])], 83, 7, 2, ()),
            ("set", [(0, "text", ["b"]), (59, "text", ["f"])], 83, 7, 2, ())])
        self.assertEqual([type(row_made(STYLE, [[]], [9], 0)), type(lines), type(lines[0]), type(lines[0][5])],
                         [tuple, list, tuple, tuple])

    def test_one_column_and_empty_cells(self):
        self.assertEqual(row_made(STYLE, [cell("a")], [50], 0)[0], [("set", [(0, "text", ["a"])], 50, 7, 2, ())])
        self.assertEqual(row_made(STYLE, [[], cell("a"), []], [5, 20, 7], 0)[0],
                         [("set", [(13, "text", ["a"])], 48, 7, 2, ())])
        self.assertEqual(row_made(STYLE, [[], []], [5, 20], 0)[0], [("set", [], 33, 0, 0, ())])

    def test_heights_and_depths(self):
        lines, _ = row_made(STYLE, [cell("H Q"), cell("Q"), cell("a a a")], [10, 10, 10], 0)
        self.assertEqual([line[3:5] for line in lines], [(20, 9), (7, 9), (7, 2)])

    def test_lines_are_set_to_the_width_of_their_cell(self):
        lines, _ = row_made(its_style(tolerance=100), [cell("a b c d")], [28], 0)
        self.assertEqual([[row[0] for row in line[1]] for line in lines], [[0, 18], [0, 14]])

    def test_notes(self):
        note = ("note", [text("a")])
        other = ("note", [])
        cells = [[text("a"), note, text(" b"), other], [("mark", "x"), text("c"), ("mark", "y")],
                 [("mark", "z"), other, note]]
        lines, notes = call(self, row_made, STYLE, cells, [20, 20, 20], 3)
        self.assertEqual(notes, [(3, [text("a")]), (4, []), (5, []), (6, [text("a")])])
        self.assertEqual([line[5] for line in lines], [(3, -1, -2, -1, 5, 6), (4,)])
        self.assertEqual(lines[0][1][1], (10, "note", ["3"]))
        self.assertEqual([row[2] for row in lines[0][1]][-2:], [["5"], ["6"]])

    def test_errors(self):
        note = ("note", [])
        # The note 2 is too wide for the second cell, while the note 1 is not.
        self.assertEqual(len(row_made(STYLE, [[note], []], [10, 10], 1)[0]), 1)
        fault(self, BreakError, row_made, STYLE, [[note], [note]], [10, 10], 1)
        fault(self, BreakError, row_made, STYLE, [[], [note]], [10, 10], 2)
        self.assertEqual(fault(self, GlyphError, row_made, STYLE, [cell("a"), cell("axa")], [10, 90], 0).at, 1)
        self.assertEqual(fault(self, BreakError, row_made, STYLE, [cell("a abc")], [20], 0).at, 2)

    def test_random_rows(self):
        chance = random.Random(176)
        rights = 0
        for _ in range(300):
            cells = [some_cell(chance) for _ in range(chance.randint(1, 5))]
            widths = [chance.randint(5, 70) for _ in cells]
            penalties = {name: chance.choice([0, 1, 50, 3000]) for name in PENALTIES}
            told = its_style(tolerance=chance.choice([10000, 300]), penalties=penalties)
            due = slow_row(told, cells, widths, 1)
            if due is None:
                fault(self, BreakError, row_made, told, cells, widths, 1)
            else:
                rights += 1
                self.assertEqual(call(self, row_made, told, cells, widths, 1), due)
        self.assertTrue(50 < rights < 250, rights)


if __name__ == "__main__":
    unittest.main()

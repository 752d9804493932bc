"""Galleys: points 15.1 to 15.6."""

import unittest

from galleypapers.breaking import judge, paper_of
from galleypapers.errors import BreakError, CircleError, GalleyError, GlyphError, LabelError, PageError, TableError
from galleypapers.extraction import words
from galleypapers.fonts import SOFT
from galleypapers.galley import Known, Layout, Made, build, build_from, laid_out, made, table_of
from galleypapers.items import items_of
from galleypapers.pages import placed
from galleypapers.paging import accepted, paper
from galleypapers.references import numbers_of, sources
from galleypapers.setting import set_line
from galleypapers.styles import default_style, line_costs
from galleypapers.tables import row_made
from galleypapers.vertical import flow_of, vertical
from tests.documents import floating, font, head, item, note, para, plain_style, some_document, text
from tests.helper import call, fault

STYLE = plain_style()
PLAIN_USES = ["text", "strong", "head1", "head2"]
ZERO = (0, 0, 0)


def documents(many=60):
    """Random documents that can be laid out, with their layouts and tables."""
    found = []
    for seed in range(many):
        document = some_document(seed)
        try:
            found.append((document, *build(document, STYLE)))
        except GalleyError:
            pass
    return found


DOCUMENTS = documents()


def digits(wide, narrow):
    """Fonts in which some digits are 30 wide and others 2, wherever they stand in a number."""
    sizes = {**{sign: 30 for sign in wide}, **{sign: 2 for sign in narrow}}
    plain = font("text", **sizes)
    kerns = {(left, right): -29 for left in wide for right in narrow}
    plain = (*plain[:3], kerns)
    return {**STYLE[1], "text": plain, "head1": font("large"), "head2": font("large")}


def tight_style(wide, narrow):
    """A style with pages of just three lines, and lines of 8 letters and a narrow number."""
    gaps = {name: ZERO for name in STYLE[9]}
    limits = {"notes": 0, "floats": 0, "keep": 2, "least": 0}
    penalties = {**{name: 0 for name in STYLE[8]}, "head": 100}
    return plain_style(fonts=digits(wide, narrow), measure=100, height=33, indent=0, gaps=gaps, limits=limits,
                       penalties=penalties)


def chain(many):
    """A document in which the page of each head but the first hangs on that of the one before.

    All heads but the first go from an even page to the odd one ahead, one in each round.
    """
    found = []
    for at in range(many):
        found += [para("aaaaaaaa ", ("page", f"h{at - 1}")) if at else para("a"), head(1, "x", f"h{at}")]
        found += [para("b"), para("c"), ("page",)]
    return found


class TestMade(unittest.TestCase):
    """Point 15.1."""

    def check_lines(self, source, use, indent, first_note):
        one = call(self, made, STYLE, source)
        items, notes = items_of(STYLE, source[1], use, indent, first_note)
        self.assertIs(type(one), Made)
        self.assertEqual((one.source, one.parts), (source, items))
        self.assertEqual((one.breaks, one.paper), paper_of(items, 200, 10000, line_costs(STYLE)))
        self.assertTrue(judge(items, 200, 10000, line_costs(STYLE), one.breaks, one.paper))
        befores = [-1, *one.breaks]
        self.assertEqual(one.lines, [set_line(items, a, b, 200) for a, b in zip(befores, one.breaks)])
        told = [("note", [text(f"{number} "), *runs], "note", 0, number) for number, runs in notes]
        self.assertEqual(one.notes, told)
        self.assertEqual([type(part) for part in (one.parts, one.breaks, one.paper, one.lines, one.notes)], [list] * 5)
        return one

    def test_kinds_of_sources(self):
        long = [text("some words that go on for more than a line"), text(" and on", "strong")]
        self.assertEqual(len(self.check_lines(("head", long, "head1", 0, 0), "head1", 0, 0).lines), 4)
        self.check_lines(("head", long, "head2", 0, 0), "head2", 0, 0)
        self.assertEqual(len(self.check_lines(("para", long, "", 20, 0), "", 20, 0).lines), 3)
        self.check_lines(("item", long, "", 40, 0), "", 40, 0)
        self.check_lines(("item", long, "", 0, 0), "", 0, 0)
        self.check_lines(("float", long, "note", 0, 0, 30), "note", 0, 0)
        self.check_lines(("note", [text("7 "), *long], "note", 0, 7), "note", 0, 7)

    def test_notes(self):
        runs = [text("a"), note("one"), text(" b"), note(), text(" c"), note(text("two", "strong"), text(" three"))]
        one = self.check_lines(("para", runs, "", 20, 5), "", 20, 5)
        self.assertEqual(one.notes, [
            ("note", [text("5 "), text("one")], "note", 0, 5), ("note", [text("6 ")], "note", 0, 6),
            ("note", [text("7 "), text("two", "strong"), text(" three")], "note", 0, 7)])
        self.assertEqual(one.lines[0][5], (5, 6, 7))
        inner = call(self, made, STYLE, one.notes[2])
        self.assertEqual(inner.notes, [])
        self.assertEqual({row[1] for line in inner.lines for row in line[1]}, {"note"})

    def test_rows(self):
        cells = [[text("a bc"), note("x")], [], [text("de fgh ij"), ("mark", "m"), note("y")]]
        source = ("row", cells, "", [40, 20, 60], 3)
        one = call(self, made, STYLE, source)
        self.assertEqual((one.source, one.parts, one.breaks, one.paper), (source, [], [], []))
        lines, notes = row_made(STYLE, cells, [40, 20, 60], 3)
        self.assertEqual(one.lines, lines)
        self.assertEqual(notes, [(3, [text("x")]), (4, [text("y")])])
        self.assertEqual(one.notes, [("note", [text("3 "), text("x")], "note", 0, 3),
                                     ("note", [text("4 "), text("y")], "note", 0, 4)])

    def test_tolerance_costs_and_measure_are_those_of_the_style(self):
        runs = [text("aaa bb cccc dd eeeee f gg hhh iiii jj kkkkk l mm nnn")]
        some = [{"penalties": {**STYLE[8], **more}} for more in [{}, {"line": 500}, {"fitness": 9000}]]
        for parts in [*some, {"tolerance": 250}, {"measure": 100}, {"measure": 130}]:
            its_style = plain_style(**parts)
            one = made(its_style, ("para", runs, "", 0, 0))
            items, _ = items_of(its_style, runs, "", 0, 0)
            self.assertEqual((one.breaks, one.paper), paper_of(items, its_style[2], its_style[7], line_costs(its_style)))
            befores = [-1, *one.breaks]
            self.assertEqual(one.lines, [set_line(items, a, b, its_style[2]) for a, b in zip(befores, one.breaks)])

    def test_errors(self):
        narrow = plain_style(measure=30, indent=0)
        self.assertEqual(fault(self, BreakError, made, narrow, ("para", [text("aa bbbb")], "", 0, 0)).at, 2)
        self.assertEqual(fault(self, BreakError, made, narrow, ("row", [[text("xxxx")]], "", [24], 0)).at, -1)
        for source in [("para", [text("aa"), text("b#c")], "", 0, 0), ("row", [[text("b#c")]], "", [200], 0)]:
            without = {use: (*one[:2], {glyph: one[2][glyph] for glyph in one[2] if glyph != "#"}, {})
                       for use, one in STYLE[1].items()}
            self.assertEqual(fault(self, GlyphError, made, plain_style(fonts=without), source).at, 1)


class TestKnown(unittest.TestCase):
    def test_equal_sources_are_made_once(self):
        known = Known()
        self.assertEqual(known.count, 0)
        first = call(self, known.make, STYLE, ("para", [text("abc")], "", 20, 0))
        self.assertEqual(known.count, 1)
        self.assertIs(known.make(STYLE, ("para", [text("abc")], "", 20, 0)), first)
        self.assertEqual(known.count, 1)
        others = [("item", [text("abc")], "", 20, 0), ("para", [text("abc")], "", 21, 0),
                  ("para", [text("abd")], "", 20, 0), ("para", [text("abc", "strong")], "", 20, 0),
                  ("para", [text("abc")], "", 20, 1), ("para", [text("ab"), text("c")], "", 20, 0),
                  ("head", [text("abc")], "head1", 20, 0), ("head", [text("abc")], "head2", 20, 0),
                  ("float", [text("1 ")], "note", 0, 1, 4), ("float", [text("1 ")], "note", 0, 1, 5),
                  ("note", [text("1 ")], "note", 0, 1), ("row", [[text("abc")]], "", [200], 0),
                  ("row", [[text("abc")]], "", [100], 0), ("para", [text("abc', 'text'")], "", 20, 0)]
        for at, source in enumerate(others):
            one = known.make(STYLE, source)
            self.assertEqual((known.count, one.source), (at + 2, source))
            self.assertEqual(one.lines, made(STYLE, source).lines)
        self.assertIs(known.make(STYLE, first.source), first)
        self.assertEqual(Known().count, 0)

    def test_errors_do_not_count(self):
        known = Known()
        for _ in range(2):
            fault(self, BreakError, known.make, plain_style(measure=30, indent=0), ("para", [text("aaaa")], "", 0, 0))
            self.assertEqual(known.count, 0)

    def test_notes_are_made_where_they_are_asked_for(self):
        known = Known()
        one = known.make(STYLE, ("para", [text("a"), note("b")], "", 20, 1))
        self.assertEqual(known.count, 1)
        known.make(STYLE, one.notes[0])
        self.assertEqual(known.count, 2)


class TestLayout(unittest.TestCase):
    """Points 15.2 to 15.4."""

    def lay(self, document, its_style=STYLE, table=None):
        table = table or [0] * len(numbers_of(document).order)
        return call(self, lambda document, style, table: laid_out(document, style, table, Known()), document, its_style,
                    table)

    def test_fields(self):
        document = [head(1), para("a", note("b")), ("page",), floating(5, "c"), ("contents",), ("table", [[[text("d")]]])]
        layout = self.lay(document, table=[7, 8])
        self.assertIs(type(layout), Layout)
        self.assertEqual(layout.table, [7, 8])
        found, _ = sources(document, STYLE, [7, 8])
        self.assertEqual([one.source for one in layout.made], [one for one in found if one != ("page",)])
        self.assertEqual(layout.flow, flow_of(STYLE))
        for one in layout.made:
            self.assertEqual(one.lines, made(STYLE, one.source).lines)
        self.assertEqual([type(part) for part in (layout.made, layout.notes, layout.floats, layout.blocks, layout.matter,
                                                  layout.pages, layout.placed)], [list] * 4 + [tuple] + [list] * 2)

    def test_stacks(self):
        document = [floating(9, "a" * 33 + " bb"), para("a", note("b"), note("c" * 33 + " d")), floating(0)]
        layout = self.lay(document)
        # The distance of two baselines is 12, and letters of notes are 5 high and 1 deep.
        row = [("row", 5, 1, rows) for rows in ([(0, "note", ["a"] * 33)], [(0, "note", ["b", "b"])])]
        self.assertEqual(layout.floats, [[("gap", 9, 0, 0), row[0], ("gap", 6, 0, 0), row[1]],
                                         [("gap", 0, 0, 0), ("row", 0, 0, [])]])
        self.assertEqual(layout.notes[0], [("row", 5, 1, [(0, "note", ["1"]), (16, "note", ["b"])])])
        self.assertEqual([part[:3] for part in layout.notes[1]], [("row", 5, 1), ("gap", 6, 0), ("row", 5, 1), ("gap", 6, 0),
                                                                  ("row", 5, 1)])
        self.assertEqual(layout.matter[2:4], ([6, 30], [27, 0]))
        deep = plain_style(fonts={**STYLE[1], "note": font("tiny", 6, 8, 4)}, leading=10)
        self.assertEqual(self.lay([floating(0, "a" * 33 + " b")], deep).floats[0][2], ("gap", 1, 0, 0))

    def test_stacks_of_lines_with_several_depths(self):
        fonts = {**STYLE[1], "note": ("font", "tiny", {**font("tiny", 60)[2], "q": (120, 7, 4), "h": (120, 9, 0)}, {})}
        layout = self.lay([floating(0, "q h q q h")], plain_style(fonts=fonts))
        self.assertEqual([part[1:3] for part in layout.floats[0]], [
            (0, 0), (7, 4), (1, 0), (9, 0), (5, 0), (7, 4), (1, 0), (7, 4), (1, 0), (9, 0)])

    def test_what_is_left_on_the_last_page(self):
        # The stretch behind the lines of the last page is 10000000 exactly: the gaps get next to nothing.
        for stretch, left, share in [(5, 2000000, 0), (5, 2000001, 1), (3, 3333334, 0), (3, 3333335, 1)]:
            its_style = plain_style(height=left + 7 + 2 + 3 + 7 + 2, gaps={**STYLE[9], "paragraph": (0, stretch, 0)})
            layout = self.lay([para("a"), para("b")], its_style)
            self.assertEqual([row[1] for row in layout.placed[0][2]], [7, 9 + 3 + share + 7])

    def test_blocks(self):
        document = [head(2, "a"), para("b"), ("page",), item(1, "c"), floating(3), ("table", [[[text("d")]], [[]]]),
                    ("contents",), ("index",)]
        layout = self.lay(document)
        self.assertEqual([block[0] for block in layout.blocks],
                         ["head", "para", "page", "item", "float", "row", "row", "item"])
        self.assertEqual([block for block in layout.blocks if len(block) == 1], [("page",), ("float",)])
        self.assertEqual(layout.blocks[0], ("head", [(9, 3, (), False)]))
        self.assertEqual(layout.blocks[6], ("row", [(0, 0, (), False)]))
        self.assertEqual(layout.matter, ("matter", vertical(layout.blocks, layout.flow), [], [3], flow_of(STYLE)))

    def test_numbers_of_notes_in_blocks(self):
        document = [para("a", note("x"), ("mark", "m"), " b", note("y")), para("c"),
                    ("table", [[[text("d"), ("mark", "m"), note("z")], [note("w")]]]), item(1, ("mark", "n"), "e", note("v"))]
        layout = self.lay(document)
        self.assertEqual([[line[2] for line in block[1]] for block in layout.blocks], [[(0, 1)], [()], [(2, 3)], [(4,)]])
        self.assertEqual(len(layout.notes), 5)
        self.assertEqual([one.lines[0][5] for one in layout.made], [(1, -1, 2), (), (-1, 3, 4), (-1, 5)])

    def test_hyphenated_lines(self):
        its_style = plain_style(measure=100, indent=0, hyphens=("hyphens", ["a1b"], [], 1, 1))
        layout = self.lay([para("aaaaaabbbbbb"), para("dddddd-dddddd"), para("dddddd dddddd"),
                           ("table", [[[text("dddddd-dddddd")]]])], its_style)
        self.assertEqual([[line[3] for line in block[1]] for block in layout.blocks],
                         [[True, False], [False, False], [False, False], [False, False]])
        self.assertEqual(layout.made[0].lines[0][1][-1][2], [SOFT])

    def test_a_page_by_hand(self):
        gaps = {**STYLE[9], "float": (7, 0, 0), "note": (6, 10, 0), "paragraph": (4, 5, 0)}
        document = [para("a", note("b")), floating(10, "c"), para("d")]
        layout = self.lay(document, plain_style(gaps=gaps))
        # 10 and 6 for the float, 7 behind it; two lines of 9 with 3 and 4 between; 6 and 6 for the note.
        self.assertEqual(layout.pages, [("page", 0, 5, (0,))])
        height = 10 + 6 + 7 + 9 + 3 + 4 + 9 + 6 + 6
        left = 130 - height
        self.assertEqual(layout.placed, [("page", 1, [
            (0, 15, "note", ["c"]), (20, 30, "text", ["a"]), (30, 30, "note", ["1"]), (20, 46, "text", ["d"]),
            (0, 48 + left + 6 + 5, "note", ["1"]), (16, 48 + left + 6 + 5, "note", ["b"])])])

    def test_pages_that_are_not_the_last_are_stretched(self):
        document = [para("a"), para("b"), ("page",), para("c"), para("d")]
        layout = self.lay(document)
        self.assertEqual([[row[1] for row in page[2]] for page in layout.placed], [[7, 128], [7, 23]])
        self.assertEqual([page[1] for page in layout.placed], [1, 2])

    def test_gaps_ahead_of_and_behind_the_lines_of_a_page_are_left_out(self):
        document = [para("a"), ("page",), para("b"), ("page",), floating(5, "c")]
        layout = self.lay(document)
        self.assertEqual([[row[:2] for row in page[2]] for page in layout.placed],
                         [[(20, 7)], [(0, 10), (20, 25)]])

    def test_floats_alone_on_the_last_pages(self):
        layout = self.lay([para("a"), *[floating(10, "bcde"[at]) for at in range(4)]])
        self.assertEqual([page[3] for page in layout.pages], [(0, 1), (2, 3)])
        self.assertEqual([row[1:2] + row[3][0:1] for row in [(*row[:3], tuple(row[3])) for row in layout.placed[1][2]]],
                         [(15, "d"), (38, "e")])

    def slow_stack(self, layout, ones, page):
        """The stack of a page, straight from point 15.4."""
        _, first, last, floats = page
        stack = []
        for number in floats:
            stack += layout.floats[number] + [("gap", *layout.flow[3]["float"])]
        rows = layout.matter[1]
        lines = [at for at in range(first, last) if rows[at][0] == "line"]
        notes = []
        for at in range(first, last):
            if rows[at][0] == "line":
                _, block, number, height, depth, its_notes = rows[at]
                self.assertEqual(ones[block].lines[number][3:5], (height, depth))
                stack.append(("row", height, depth, ones[block].lines[number][1]))
                notes += its_notes
            if rows[at][0] == "gap" and lines and lines[0] < at < lines[-1]:
                stack.append(rows[at])
        if last == len(rows):
            stack.append(("gap", 0, 10000000, 0))
        if notes:
            stack.append(("gap", *layout.flow[3]["note"]))
        return stack + [part for number in sorted(notes) for part in layout.notes[number]]

    def test_random_documents(self):
        self.assertGreater(len(DOCUMENTS), 50)
        for _, layout, _ in DOCUMENTS:
            with_pages = iter(layout.made)
            ones = [None if block[0] == "page" else next(with_pages) for block in layout.blocks]
            self.assertEqual(layout.matter[1], vertical(layout.blocks, layout.flow))
            self.assertEqual(len(layout.placed), len(layout.pages))
            for at, page in enumerate(layout.pages):
                stack = self.slow_stack(layout, ones, page)
                self.assertEqual(layout.placed[at], ("page", at + 1, placed(stack, 130)))
            self.assertTrue(accepted(layout.matter, layout.pages, paper(layout.matter)))


class TestRounds(unittest.TestCase):
    """Point 15.5."""

    def test_tables(self):
        document = [head(1, "a"), para("b", ("mark", "m")), ("page",), floating(5), item(1, "c d", ("mark", "n")),
                    ("page",), ("table", [[[("mark", "x")], [text("y")]], [[text("z"), ("mark", "w")], [("mark", "v")]]]),
                    head(2, "e"), para("f"), ("contents",), ("index",)]
        layout, tables = call(self, build, document, STYLE)
        self.assertEqual(tables, [[0] * 8, [1, 1, 2, 2, 3, 3, 3, 3]])
        self.assertEqual((layout.table, table_of(document, layout)), (tables[-1], tables[-1]))

    def test_the_page_of_a_mark_is_that_of_its_line(self):
        long = "aaaaaaaaaaaaaaa " * 5
        document = [para(("mark", "k"), long, ("mark", "l"), long, ("mark", "m"), long, ("mark", "n"))]
        # Just 11 lines fill a page, and the third mark is in the last of them.
        layout, tables = build(document, plain_style(height=129))
        self.assertEqual(len(layout.pages), 2)
        self.assertEqual(tables[-1], [1, 1, 1, 2])

    def test_the_page_of_a_head_is_that_of_its_first_line(self):
        document = [para("a " * 150), head(1, "b " * 60), para("c")]
        layout, tables = build(document, STYLE)
        pages = [page[1] for page in layout.placed for row in page[2] if row[2] == "head1"]
        self.assertEqual(tables[-1], [pages[0]])
        self.assertGreater(pages[0], 1)

    def test_pages_of_floats_that_come_late(self):
        document = [floating(60, "a"), floating(60, "b"), floating(60, "c"), para("d")]
        layout, tables = build(document, STYLE)
        self.assertEqual(tables[-1], [at + 1 for at, page in enumerate(layout.pages) for _ in page[3]])
        self.assertEqual(tables[-1][0], 1)
        self.assertGreater(tables[-1][2], 1)

    def test_no_entries(self):
        for document in [[], [para("a")], [("contents",)], [("index",), ("page",)]]:
            layout, tables = call(self, build, document, STYLE)
            self.assertEqual((tables, layout.table, table_of(document, layout)), ([[]], [], []))
        self.assertEqual(build([], STYLE)[0].placed, [])

    def test_build_settles(self):
        for document, layout, tables in DOCUMENTS:
            self.assertEqual(tables[0], [0] * len(numbers_of(document).order))
            for before, after in zip(tables, tables[1:]):
                self.assertEqual(table_of(document, laid_out(document, STYLE, before, Known())), after)
                self.assertNotEqual(before, after)
            self.assertEqual((layout.table, table_of(document, layout)), (tables[-1], tables[-1]))
            again = laid_out(document, STYLE, tables[-1], Known())
            self.assertEqual(again.placed, layout.placed)

    def test_what_is_known_is_used_again(self):
        document = [head(1, "a"), para("b ", ("page", "x")), floating(4, "c", "x"), para("d", note("e"))]
        known = Known()
        layout, tables = call(self, lambda document, style: build_from(document, style, known), document, STYLE)
        # The paragraph is made twice: with the page 0, and with the right one.
        self.assertEqual((len(tables), known.count), (2, 6))
        again, more = build_from(document, STYLE, known)
        self.assertEqual((known.count, more, again.placed), (6, tables, layout.placed))

    def test_rounds_up_to_the_limit(self):
        its_style = tight_style("02468", "13579")
        for many in range(1, 12):
            layout, tables = build(chain(many), its_style)
            told = [[0] * many] + [[2 * at + 1 if at <= step else 2 * at + 2 for at in range(many)] for step in range(many)]
            self.assertEqual(tables, told)
            self.assertEqual(len(layout.placed), 2 * many)

    def test_too_many_rounds(self):
        its_style = tight_style("02468", "13579")
        for many in (12, 13):
            rounds = fault(self, CircleError, build, chain(many), its_style).rounds
            self.assertEqual(rounds, [[0] * many] + [[2 * at + 1 if at <= step else 2 * at + 2 for at in range(many)]
                                                     for step in range(12)])

    def test_circles(self):
        document = [para("aaaaaaaa ", ("page", "h")), head(1, "x", "h"), para("b"), para("c")]
        error = fault(self, CircleError, build, document, tight_style("1", "02"))
        self.assertEqual(error.rounds, [[0], [1], [2], [1]])
        error = fault(self, CircleError, build, document, tight_style("01", "2"))
        self.assertEqual(error.rounds, [[0], [2], [1], [2]])
        self.assertEqual(build(document, tight_style("012", "3"))[1], [[0], [2]])
        known = Known()
        fault(self, CircleError, lambda: build_from(document, tight_style("1", "02"), known))
        self.assertEqual(known.count, 6)

    def test_errors(self):
        for function in [build, lambda document, style: laid_out(document, style, [], Known()),
                         lambda document, style: build_from(document, style, Known())]:
            self.assertEqual(fault(self, LabelError, function, [para(("ref", "a"))], STYLE).label, "a")
            wide = [("table", [[[text("a")], [text("b" * 30)]]])]
            self.assertEqual(fault(self, TableError, function, wide, STYLE).at, 1)
            self.assertEqual(fault(self, BreakError, function, [para("a", note("b" * 50))], STYLE).at, 2)
            high = [para("a"), ("page",), ("table", [[[text("a " * 200)]]])]
            self.assertEqual(fault(self, PageError, function, high, STYLE).at, 2)
            without = {**STYLE[1], "note": ("font", "none", {SOFT: (1, 1, 1)}, {})}
            self.assertEqual(fault(self, GlyphError, function, [para("a", note("b"))], plain_style(fonts=without)).at, 0)
        self.assertEqual(fault(self, LabelError, build, [head(1, "a", "x"), head(1, "b", "x")], STYLE).label, "x")


def words_of(runs, use=""):
    """The words of runs, without the marks of notes, which end words here."""
    whole = "".join({"text": run[-1], "tie": " "}.get(run[0], "") for run in runs)
    return whole.split()


class TestWhole(unittest.TestCase):
    """Points 15.6 and 0.4."""

    def test_words_stand_on_the_pages_in_order(self):
        for document, layout, tables in DOCUMENTS:
            found, _ = sources(document, STYLE, tables[-1])
            told = []
            for source in found:
                if source[0] in ("head", "para", "item"):
                    told += words_of(source[1])
            in_rows = [source for source in found if source[0] == "row"]
            read = words(layout.placed, STYLE[1], PLAIN_USES)
            if not in_rows:
                self.assertEqual(read, told)
            else:
                cells = [cell for source in in_rows for cell in source[1]]
                self.assertEqual(sorted(read), sorted(told + [word for cell in cells for word in words_of(cell)]))

    def test_words_of_floats_and_notes_stand_on_the_pages_in_order(self):
        for document, layout, tables in DOCUMENTS:
            found, _ = sources(document, STYLE, tables[-1])
            floats = [words_of(source[1]) for source in found if source[0] == "float"]
            notes = [[str(note[4]), *words_of(note[1][1:])] for one in layout.made for note in one.notes]
            for page, its_rows in zip(layout.pages, layout.placed):
                rows = layout.matter[1][page[1]:page[2]]
                its_notes = [number for row in rows if row[0] == "line" for number in row[5]]
                told = [word for number in page[3] for word in floats[number]]
                told += [str(number + 1) for number in its_notes]
                told += [word for number in sorted(its_notes) for word in notes[number]]
                self.assertEqual(words([its_rows], STYLE[1], ["note"]), told)
            on_pages = [row[5] for row in layout.matter[1] if row[0] == "line"]
            self.assertEqual(sorted(number for numbers in on_pages for number in numbers), list(range(len(notes))))
            self.assertEqual([number for page in layout.pages for number in page[3]], list(range(len(floats))))

    def test_references_contents_and_index_tell_the_pages(self):
        document = [("contents",), head(1, "alpha", "a"), para("see ", ("page", "b"), " and ", ("ref", "b"), ("mark", "m")),
                    ("page",), head(2, "beta", "b"), para("see ", ("page", "a"), ("mark", "m")), ("page",),
                    floating(5, "float ", "f"), para("last ", ("page", "f"), ("mark", "k")), ("index",)]
        layout, _ = build(document, STYLE)
        self.assertEqual(words(layout.placed, STYLE[1], PLAIN_USES), (
            "1 alpha 1 1.1 beta 2 1 alpha see 2 and 1.1 1.1 beta see 1 last 3 k 3 m 1, 2").split())

    def test_equal_layouts_for_equal_documents(self):
        for document, layout, tables in DOCUMENTS[:20]:
            again, more = call(self, build, document, STYLE)
            self.assertEqual((again.placed, again.pages, more), (layout.placed, layout.pages, tables))

    def test_the_default_style(self):
        its_style = default_style()
        document = [head(1, "First", "a"), para("Some words, ", note("With a note."), " see @", ("page", "a"))]
        layout, _ = build(document, its_style)
        self.assertEqual(words(layout.placed, its_style[1], ["text"]), ["Some", "words,", "see", "@1"])


if __name__ == "__main__":
    unittest.main()

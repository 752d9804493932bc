"""Joint layouts: point 20.4."""

import itertools
import unittest

from galleypapers.breaking import cost_of
from galleypapers.errors import BreakError, GalleyError, LabelError, PageError, TableError
from galleypapers.galley import Known, Layout, Made, laid_out, made
from galleypapers.looseness import by_lines
from galleypapers.paging import accepted, best_pages, paper, total_cost
from galleypapers.references import numbers_of
from galleypapers.setting import set_lines
from galleypapers.styles import line_costs
from galleypapers.together import laid_out_jointly, layout_cost, variants_of
from galleypapers.vertical import vertical
from tests.documents import floating, head, item, note, para, plain_style, some_document, text
from tests.helper import call, fault

STYLE = plain_style()
COSTS = line_costs(STYLE)
LONG = "aaa bbbb cc ddddd eee ffff gg hhhhh iii jjjj kk lllll mmm nnnn oo ppppp qqq"


def joint(document, spread, its_style=STYLE, table=None, known=None):
    table = [0] * len(numbers_of(document).order) if table is None else table
    return laid_out_jointly(document, its_style, table, Known() if known is None else known, spread)


class TestVariants(unittest.TestCase):
    def test_paragraphs_and_items(self):
        for kind, indent in [("para", 20), ("item", 40)]:
            one = made(STYLE, (kind, [text(LONG)], "", indent, 0))
            all_of_them = by_lines(one.parts, 200, 10000, COSTS)
            self.assertGreater(len(all_of_them), 4)
            for spread in range(4):
                told = call(self, lambda style, spread: variants_of(style, one, spread), STYLE, spread)
                self.assertEqual((type(told), {type(row) for row in told}), (list, {tuple}))
                self.assertEqual(told, [(cost, set_lines(one.parts, breaks, 200), breaks)
                                        for many, cost, breaks in all_of_them if abs(many - len(one.breaks)) <= spread])
                self.assertEqual([len(row[1]) for row in told], sorted({len(row[1]) for row in told}))
            (cost, lines, breaks), = variants_of(STYLE, one, 0)
            self.assertEqual((cost, lines, breaks), (cost_of(one.parts, 200, 10000, COSTS, one.breaks), one.lines, one.breaks))

    def test_fewer_and_more_lines(self):
        one = made(STYLE, ("para", [text(LONG)], "", 20, 0))
        all_of_them = [row[0] for row in by_lines(one.parts, 200, 10000, COSTS)]
        best = len(one.breaks)
        self.assertEqual([len(row[2]) for row in variants_of(STYLE, one, 1)],
                         [many for many in (best - 1, best, best + 1) if many in all_of_them])
        self.assertEqual(len(variants_of(STYLE, one, 1000)), len(all_of_them))

    def test_other_sources(self):
        long = [text(LONG)]
        for source in [("head", long, "head1", 0, 0), ("float", long, "note", 0, 0, 5), ("note", long, "note", 0, 1),
                       ("row", [long, long], "", [75, 75], 0)]:
            one = made(STYLE, source)
            for spread in (0, 1, 9):
                self.assertEqual(variants_of(STYLE, one, spread), [(0, one.lines, one.breaks)])

    def test_variants_of_chosen_ones(self):
        # Whatever breaks were chosen, the spread is counted from the best ones.
        one = made(STYLE, ("para", [text(LONG)], "", 20, 0))
        _, lines, breaks = variants_of(STYLE, one, 1)[-1]
        self.assertNotEqual(breaks, one.breaks)
        chosen = Made(one.source, one.parts, breaks, [], lines, [])
        for spread in (0, 1, 2):
            self.assertEqual(variants_of(STYLE, chosen, spread), variants_of(STYLE, one, spread))


class TestLayouts(unittest.TestCase):
    def check_layout(self, document, layout, spread, its_style=STYLE):
        """Look at a joint layout; what it is made of must be some of the variants."""
        afresh = Known()
        plain_sources = [one.source for one in layout.made]
        self.assertIs(type(layout), Layout)
        for one, source in zip(layout.made, plain_sources):
            self.assertEqual(one.paper, [])
            variants = variants_of(its_style, afresh.make(its_style, source), spread)
            self.assertIn((one.lines, one.breaks), [row[1:] for row in variants])
            self.assertEqual((one.parts, one.notes), (afresh.make(its_style, source).parts,
                                                      afresh.make(its_style, source).notes))
        self.assertEqual(layout.matter[1], vertical(layout.blocks, layout.flow))
        self.assertTrue(accepted(layout.matter, layout.pages, paper(layout.matter)))

    def least(self, document, spread, its_style):
        """The least cost over all choices, with a layout for each of them."""
        known = Known()
        layout = joint(document, 0, its_style, known=known)
        costs = []
        ones = [known.make(its_style, one.source) for one in layout.made]
        for rows in itertools.product(*[variants_of(its_style, one, spread) for one in ones]):
            chosen = [Made(one.source, one.parts, breaks, [], lines, one.notes) for one, (_, lines, breaks)
                      in zip(ones, rows)]
            blocks = iter(chosen)
            chosen = [None if block[0] == "page" else next(blocks) for block in layout.blocks]
            notes = [known.make(its_style, source) for one in ones for source in one.notes]
            try:
                pages = Layout(its_style, layout.table, chosen, notes)
                costs.append(total_cost(pages.matter, pages.pages) + sum(row[0] for row in rows))
            except PageError:
                pass
        return min(costs), len(costs)

    def test_other_lines_for_better_pages(self):
        # Nine lines fill a page, which is broken behind the paragraph; the best breaks have one line less.
        gaps = {name: (0, 0, 0) for name in STYLE[9]}
        one = made(STYLE, ("para", [text(LONG)], "", 20, 0))
        best, longer = len(one.breaks), len(one.breaks) + 1
        (dearer,) = [cost for many, cost, _ in by_lines(one.parts, 200, 10000, COSTS) if many == longer]
        its_style = plain_style(gaps=gaps, height=longer * 9 + (longer - 1) * 3,
                                penalties={**STYLE[8], "line": 0, "fitness": 0, "double": 0})
        document = [para(LONG), ("page",), para("a")]
        plain = laid_out(document, its_style, [], Known())
        self.assertEqual(len(plain.made[0].lines), best)
        self.assertGreater(dearer, 10000)
        self.assertEqual(joint(document, 0, its_style).placed, plain.placed)
        layout = joint(document, 1, its_style)
        self.assertEqual(layout_cost(its_style, layout), self.least(document, 1, its_style)[0])
        self.check_layout(document, layout, 1, its_style)

    def test_least_costs(self):
        # All lines cost nearly nothing, so that the pages decide.
        its_style = plain_style(space=(10, 200, 9), height=57, gaps={**STYLE[9], "paragraph": (1, 1, 0)},
                                penalties={**STYLE[8], "line": 0, "fitness": 0})
        document = [para(LONG[:47], note("x")), head(1), item(1, LONG[:30]), ("page",), para(LONG[:40]), floating(3, "y"),
                    ("table", [[[text("a")], [text("b c")]]])]
        found = {}
        for spread in (0, 1, 2):
            layout = call(self, lambda document, style: joint(document, spread, style), document, its_style)
            self.check_layout(document, layout, spread, its_style)
            cost, many = self.least(document, spread, its_style)
            self.assertEqual(layout_cost(its_style, layout), cost)
            found[spread] = (cost, many)
        self.assertGreater(found[0][0], found[1][0])
        self.assertGreater(found[1][1], 3)

    def test_no_spread_is_the_plain_layout(self):
        found = 0
        for seed in range(40):
            document = some_document(seed)
            table = [at + 1 for at, _ in enumerate(numbers_of(document).order)]
            try:
                plain = laid_out(document, STYLE, table, Known())
            except PageError:
                fault(self, PageError, joint, document, 0, STYLE, table)
                continue
            except GalleyError as error:
                same = fault(self, type(error), joint, document, 1, STYLE, table)
                self.assertEqual(vars(same), vars(error))
                continue
            found += 1
            layout = joint(document, 0, STYLE, table)
            self.assertEqual((layout.table, layout.blocks, layout.matter), (table, plain.blocks, plain.matter))
            self.assertEqual((layout.notes, layout.floats, layout.flow), (plain.notes, plain.floats, plain.flow))
            self.assertEqual(layout_cost(STYLE, layout), layout_cost(STYLE, plain))
            self.assertEqual([one.source for one in layout.made], [one.source for one in plain.made])
            self.check_layout(document, layout, 0)
            for spread in (1, 3):
                wider = joint(document, spread, STYLE, table)
                self.check_layout(document, wider, spread)
                self.assertLessEqual(layout_cost(STYLE, wider), layout_cost(STYLE, plain))
        self.assertGreater(found, 30)

    def test_what_is_known_is_used(self):
        document = [para("a", note("b")), floating(3), para("a")]
        known = Known()
        joint(document, 1, known=known)
        self.assertEqual(known.count, 4)
        joint(document, 2, known=known)
        laid_out(document, STYLE, [1], known)
        self.assertEqual(known.count, 4)
        self.assertEqual(known.make(STYLE, ("para", [text("a")], "", 20, 0)).paper != [], True)

    def test_layout_cost(self):
        document = [head(1, "a head with more than a line"), para(LONG), item(1, LONG), floating(5, LONG), para("a", note(LONG)),
                    ("table", [[[text("a b c d e f g h i")], [text("b c")]]]), ("contents",), ("page",), para("z")]
        layout = laid_out(document, STYLE, [0, 0], Known())
        told = [cost_of(one.parts, 200, 10000, COSTS, one.breaks) for one in layout.made
                if one.source[0] in ("para", "item")]
        self.assertEqual(len(told), 5)
        self.assertEqual(layout_cost(STYLE, layout), sum(told) + total_cost(layout.matter, layout.pages))
        self.assertEqual(total_cost(layout.matter, layout.pages), total_cost(layout.matter, best_pages(layout.matter)))

    def test_empty_documents(self):
        layout = joint([], 3)
        self.assertEqual((layout.made, layout.pages, layout.placed, layout_cost(STYLE, layout)), ([], [], [], 0))

    def test_errors(self):
        self.assertEqual(fault(self, LabelError, joint, [para(("ref", "a"))], 1).label, "a")
        self.assertEqual(fault(self, TableError, joint, [("table", [[[text("b" * 30)], []]])], 1).at, 0)
        self.assertEqual(fault(self, BreakError, joint, [para("a", note("b" * 50))], 1).at, 2)
        high = [para("a"), ("page",), ("table", [[[text("a " * 200)]]])]
        self.assertEqual(fault(self, PageError, joint, high, 1).at, 1)


if __name__ == "__main__":
    unittest.main()

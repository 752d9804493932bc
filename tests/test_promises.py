"""The main promises of the whole program: points 0.1 to 0.4."""

import random
import unittest

from galleypapers.audit import audit
from galleypapers.breaking import cost_of, judge
from galleypapers.desk import Desk
from galleypapers.edits import Session, difference
from galleypapers.errors import GalleyError
from galleypapers.galley import Known, block_lines, build, laid_out, stack_height, table_of
from galleypapers.joint import best_choices, paper as joint_paper, paper_right as joint_right
from galleypapers.markup import read, write
from galleypapers.pages import read_pages, write_pages
from galleypapers.paging import accepted, paper, total_cost
from galleypapers.styles import default_style, line_costs
from galleypapers.together import laid_out_jointly, layout_cost, variants_of
from tests.documents import plain_style, some_document
from tests.helper import call

STYLES = [plain_style(), plain_style(height=70, limits={"notes": 30, "floats": 1, "keep": 1, "least": 2}),
          plain_style(space=(10, 40, 5), height=100), default_style()]


def built(seeds):
    """Random documents with styles, and the layouts and tables of those that can be laid out."""
    found = []
    for seed in seeds:
        document = some_document(seed)
        style = STYLES[seed % len(STYLES)]
        try:
            found.append((document, style, *build(document, style)))
        except GalleyError:
            pass
    return found


BUILT = built(range(80))


class TestPromises(unittest.TestCase):
    def test_there_are_enough_documents(self):
        self.assertGreater(len(BUILT), 60)
        self.assertGreater(len([row for row in BUILT if len(row[2].pages) > 1]), 20)

    def test_pages_have_no_fault(self):
        for document, style, layout, tables in BUILT:
            self.assertIsNone(call(self, audit, document, style, tables[-1], layout.placed))
            self.assertEqual(table_of(document, layout), tables[-1])
            self.assertEqual(read_pages(write_pages(layout.placed)), layout.placed)

    def test_papers_show_that_costs_are_least(self):
        for _, style, layout, _ in BUILT:
            for one in layout.made:
                if one.source[0] != "row":
                    case = (one.parts, style[2], style[7], line_costs(style), one.breaks)
                    self.assertTrue(judge(*case, one.paper))
            self.assertTrue(accepted(layout.matter, layout.pages, paper(layout.matter)))

    def test_papers_show_that_costs_of_joint_layouts_are_least(self):
        better = 0
        for document, style, layout, tables in BUILT[:40]:
            known = Known()
            jointly = laid_out_jointly(document, style, tables[-1], known, 1)
            ones = iter([known.make(style, one.source) for one in jointly.made])
            blocks = []
            for block in jointly.blocks:
                one = None if block[0] == "page" else next(ones)
                blocks.append(block if len(block) == 1 else (block[0], [
                    (cost, block_lines(one.parts, breaks, lines)) for cost, lines, breaks in variants_of(style, one, 1)]))
            heights = [[stack_height(stack) for stack in stacks] for stacks in (jointly.notes, jointly.floats)]
            case = (blocks, *heights, jointly.flow)
            rows = joint_paper(*case)
            self.assertTrue(joint_right(*case, rows))
            cost = layout_cost(style, jointly)
            self.assertEqual((rows[-1][3], rows[-1][4]), (len(jointly.floats), cost))
            self.assertEqual(best_choices(*case)[0], cost)
            self.assertLessEqual(cost, layout_cost(style, layout))
            better += cost < layout_cost(style, layout)
            self.assertEqual(sum(cost_of(one.parts, style[2], style[7], line_costs(style), one.breaks)
                                 for one in jointly.made if one.source[0] in ("para", "item"))
                             + total_cost(jointly.matter, jointly.pages), cost)
        self.assertGreater(better, 0)

    def test_edited_documents_are_laid_out_as_if_afresh(self):
        chance = random.Random(2)
        for style in STYLES:
            rows = [row for row in BUILT if row[1] is style][:8]
            session = Session(rows[0][0], style)
            for _ in range(10):
                document, _, layout, tables = chance.choice(rows)
                session.edit(difference(session.document, document))
                self.assertEqual((session.document, session.tables), (document, tables))
                self.assertEqual((session.layout.placed, session.layout.table), (layout.placed, layout.table))

    def test_desks_tell_the_same_pages(self):
        found = 0
        for document, style, layout, tables in BUILT[:50]:
            written = write(document)
            if not written or read(written) != document:
                continue
            found += 1
            desk = Desk(style)
            for at, line in enumerate(written.split("\n")):
                desk.ask(f"put {at + 1} {line}")
            told, = desk.ask("build")
            self.assertEqual(told.split()[:4], ["pages", str(len(layout.placed)), "rounds", str(len(tables))])
            for page in layout.placed:
                self.assertEqual("\n".join(desk.ask(f"page {page[1]}")) + "\n", write_pages([page]))
            self.assertEqual(desk.ask("check"), ["right"])
        self.assertGreater(found, 10)

    def test_tables_of_rounds_lead_from_one_to_the_next(self):
        for document, style, _, tables in BUILT[:30]:
            for before, after in zip(tables, tables[1:]):
                self.assertEqual(table_of(document, laid_out(document, style, before, Known())), after)


if __name__ == "__main__":
    unittest.main()

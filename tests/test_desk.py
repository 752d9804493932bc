"""The desk: points 16.1 to 16.4."""

import unittest
from unittest import mock

from galleypapers import desk as desk_module
from galleypapers.breaking import cost_of
from galleypapers.desk import Desk
from galleypapers.fonts import SOFT
from galleypapers.galley import build
from galleypapers.markup import read
from galleypapers.pages import write_pages
from galleypapers.paging import total_cost
from galleypapers.styles import default_style, line_costs
from tests.documents import plain_style
from tests.helper import call
from tests.test_galley import tight_style

STYLE = plain_style()


class DeskCase(unittest.TestCase):
    def desk(self, *lines, its_style=STYLE):
        """A desk with some lines."""
        desk = call(self, Desk, its_style)
        for at, line in enumerate(lines):
            self.assertEqual(desk.ask(f"put {at + 1} {line}"), [f"lines {at + 1}"])
        return desk

    def asked(self, desk, line, *told):
        answer = call(self, desk.ask, line)
        self.assertEqual((answer, type(answer)), (list(told), list), line)

    def texts(self, desk, *lines):
        self.asked(desk, "text", f"lines {len(lines)}", *["= " + line for line in lines])


class TestLines(DeskCase):
    """Points 16.1 to 16.3."""

    def test_example(self):
        desk = Desk(default_style())
        told = [desk.ask(line) for line in ["put 1 # One#a", "put 2 see @@a", "where a", "drop 9", "undo", "text"]]
        self.assertEqual(told, [['lines 1'], ['lines 2'], ['number 1 page 1'], ['error place'], ['lines 1'],
                                ['lines 1', '= # One#a']])

    def test_put(self):
        desk = Desk(STYLE)
        self.texts(desk)
        self.asked(desk, "put 2 a", "error place")
        self.asked(desk, "put 0 a", "error place")
        self.asked(desk, "put 1 a", "lines 1")
        self.asked(desk, "put 2 b", "lines 2")
        self.asked(desk, "put 1 c", "lines 3")
        self.asked(desk, "put 2 d e ", "lines 4")
        self.asked(desk, "put 6 x", "error place")
        self.asked(desk, "put 999999999 x", "error place")
        self.texts(desk, "c", "d e ", "a", "b")
        self.asked(desk, "put 000000005  f", "lines 5")
        self.asked(desk, "put 1 ", "lines 6")
        self.texts(desk, "", "c", "d e ", "a", "b", " f")

    def test_set_and_drop(self):
        desk = self.desk("a", "b", "c")
        self.asked(desk, "set 2 x y", "lines 3")
        self.asked(desk, "set 3 ", "lines 3")
        self.texts(desk, "a", "x y", "")
        self.asked(desk, "drop 1", "lines 2")
        self.texts(desk, "x y", "")
        for line in ["set 0 a", "set 3 a", "set 999999999 a", "drop 0", "drop 3", "drop 999999999"]:
            self.asked(desk, line, "error place")
        self.asked(desk, "drop 02", "lines 1")
        self.asked(desk, "drop 1", "lines 0")
        self.asked(desk, "drop 1", "error place")
        self.asked(desk, "set 1 a", "error place")
        self.texts(desk)

    def test_undo(self):
        desk = Desk(STYLE)
        self.asked(desk, "undo", "error undo")
        for line in ["put 1 a", "put 2 b", "set 1 c", "drop 2"]:
            desk.ask(line)
        self.texts(desk, "c")
        self.asked(desk, "undo", "lines 2")
        self.texts(desk, "c", "b")
        self.asked(desk, "undo", "lines 2")
        self.texts(desk, "a", "b")
        # What fails, or only asks, is no change.
        for line in ["put 9 x", "drop 9", "set 9 x", "text", "nothing", "build", "set 1"]:
            desk.ask(line)
        self.asked(desk, "put 1 d", "lines 3")
        self.asked(desk, "undo", "lines 2")
        self.asked(desk, "undo", "lines 1")
        self.texts(desk, "a")
        self.asked(desk, "undo", "lines 0")
        for _ in range(2):
            self.asked(desk, "undo", "error undo")
        self.texts(desk)

    def test_changes_that_change_nothing_are_taken_back_too(self):
        desk = self.desk("a")
        desk.ask("set 1 a")
        self.asked(desk, "undo", "lines 1")
        self.texts(desk, "a")
        self.asked(desk, "undo", "lines 0")

    def test_lines_that_are_no_commands(self):
        desk = self.desk("# One#a", "b")
        wrong = ["", " ", "a", "put", "put ", "put 1", "put  1 a", "put 1a", "put a b", "put -1 a", "put +1 a", "put 1. a",
                 "put 1234567890 a", "put 0000000001 a", " put 1 a", "Put 1 a", "PUT 1 a", "put\t1 a", "putt 1 a",
                 "set", "set ", "set 1", "set x y", "set  1 a", "set 1234567890 a", "drop", "drop ", "drop 1 ", "drop  1",
                 "drop 1 2", "drop a", "drop -1", "drop 1234567890", "undo ", " undo", "undo 1", "text ", "text 1", "Text",
                 "build ", "build 1", " build", "page", "page ", "page x", "page 1 ", "page  1", "page 1 1", "page -1",
                 "page 1234567890", "where", "cost ", "cost 1", "check ", "check 1", "error", "lines 2", "= a", "ask",
                 "told", "put 1 a\n", "put 1 a\nb", "text\n", "undo\n", "drop 1\n", "build\n", "where a\n", "page 1\n"]
        for line in wrong:
            self.asked(desk, line, "error line")
        self.texts(desk, "# One#a", "b")
        self.asked(desk, "undo", "lines 1")

    def test_no_commands_are_told_also_if_the_text_has_errors(self):
        desk = self.desk("*")
        for line in ["build ", "page x", "where", "page 1234567890"]:
            self.asked(desk, line, "error line")
        self.asked(desk, "where ", "error MarkError 1 2")


class TestLayouts(DeskCase):
    """Point 16.4."""

    def test_no_lines(self):
        for line, told in [("build", "pages 0 rounds 1 made 0 same 0"), ("page 1", "none"), ("where a", "none"),
                           ("cost", "lines 0 pages 0"), ("check", "right")]:
            self.asked(Desk(STYLE), line, told)

    def test_build(self):
        desk = self.desk("# A#a", "b @@a", "#page", "c")
        self.asked(desk, "build", "pages 2 rounds 2 made 4 same 0")
        self.asked(desk, "build", "pages 2 rounds 2 made 4 same 0")
        self.asked(desk, "set 4 d", "lines 4")
        self.asked(desk, "build", "pages 2 rounds 2 made 1 same 1")
        self.asked(desk, "drop 1", "lines 3")
        self.asked(desk, "build", "error LabelError a")
        self.asked(desk, "undo", "lines 4")
        # The text was changed, and is the same again.
        self.asked(desk, "build", "pages 2 rounds 2 made 0 same 2")
        self.asked(desk, "build", "pages 2 rounds 2 made 0 same 2")

    def test_changes_between_two_layouts_are_one_edit(self):
        desk = self.desk("a", "#page", "b")
        self.asked(desk, "build", "pages 2 rounds 1 made 2 same 0")
        for line in ["set 1 x", "put 4 y", "put 4 #page", "set 1 a", "set 5 z"]:
            desk.ask(line)
        self.asked(desk, "build", "pages 3 rounds 1 made 1 same 2")

    def test_any_of_the_commands_lays_out(self):
        for command in ["page 1", "where a", "where ", "cost", "check", "page 7"]:
            desk = self.desk("a", "b")
            desk.ask(command)
            desk.ask("set 2 c")
            desk.ask(command)
            self.asked(desk, "build", "pages 1 rounds 1 made 1 same 0")

    def test_commands_that_lay_out_nothing(self):
        desk = self.desk("a")
        desk.ask("build")
        for line in ["text", "put 9 x", "drop 9", "nothing", "page 1 "]:
            desk.ask(line)
        self.asked(desk, "build", "pages 1 rounds 1 made 1 same 0")

    def test_what_is_made_is_known_after_errors(self):
        desk = self.desk("a")
        desk.ask("build")
        for line in ["put 2 b", "put 3 " + "c" * 50]:
            desk.ask(line)
        for _ in range(2):
            self.asked(desk, "build", "error BreakError -1")
        self.asked(desk, "drop 3", "lines 2")
        self.asked(desk, "build", "pages 1 rounds 1 made 0 same 0")

    def test_a_session_begins_when_a_text_can_be_laid_out(self):
        desk = self.desk("a", "b" * 50)
        self.asked(desk, "build", "error BreakError -1")
        desk.ask("set 2 c")
        self.asked(desk, "build", "pages 1 rounds 1 made 2 same 0")

    def test_errors(self):
        without = {**STYLE[1], "note": ("font", "none", {SOFT: (1, 1, 1)}, {})}
        for lines, told, its_style in [
                (["a", "", "b *"], "MarkError 3 4", STYLE), (["#x"], "MarkError 1 1", STYLE),
                (["@q"], "LabelError q", STYLE), (["#float 1 {}#x", "# A#x"], "LabelError x", STYLE),
                (["#float 1 {ab}"], "GlyphError 0", plain_style(fonts=without)),
                (["a " + "b" * 50], "BreakError 2", STYLE), (["a", "#page", "|" + "a " * 200 + "|"], "PageError 2", STYLE),
                (["|" + "b" * 50 + "|"], "TableError 0", STYLE), (["|a|b|"], "TableError -1", plain_style(
                    measure=25, indent=0)),
                (["aaaaaaaa @@h", "# x#h", "b", "c"], "CircleError 4", tight_style("1", "02"))]:
            desk = self.desk(*lines, its_style=its_style)
            for line in ["build", "page 1", "where a", "where", "cost", "check", "where ", "page 0"]:
                self.asked(desk, line, "error line" if line == "where" else "error " + told)
            self.texts(desk, *lines)
            self.asked(desk, "set 1 # A#x", f"lines {len(lines)}")
            self.asked(desk, "undo", f"lines {len(lines)}")

    def test_answers_after_errors(self):
        desk = self.desk("# A#a", "b")
        self.asked(desk, "where a", "number 1 page 1")
        desk.ask("set 2 *")
        self.asked(desk, "where a", "error MarkError 2 2")
        desk.ask("set 2 x")
        self.asked(desk, "where a", "number 1 page 1")
        self.asked(desk, "build", "pages 1 rounds 2 made 1 same 0")

    def test_page(self):
        lines = ["# Head", "a[*b*]", "#page", "c"]
        desk = self.desk(*lines)
        layout, _ = build(read("\n".join(lines)), STYLE)
        for number in (1, 2):
            told = write_pages([layout.placed[number - 1]])
            self.asked(desk, f"page {number}", *told.split("\n")[:-1])
        self.asked(desk, "page 02", "page 2 1", "20 7 text c")
        for line in ["page 0", "page 3", "page 999999999", "page 000000000"]:
            self.asked(desk, line, "none")

    def test_pages_without_rows(self):
        desk = self.desk("^!{m}", "#page", "^!{n}")
        self.asked(desk, "page 1", "page 1 0")
        self.asked(desk, "page 2", "page 2 0")

    def test_where(self):
        desk = self.desk("# A#a", "b", "## B#b1", "#page", "c", "#float 3 {d}#f", "# C", "## D#d", "e")
        for label, told in [("a", "1 page 1"), ("b1", "1.1 page 1"), ("f", "1 page 2"), ("d", "2.1 page 2")]:
            self.asked(desk, "where " + label, "number " + told)
        for label in ["", " ", "a ", " a", "a b", "x", "A", "1", "a" * 50, "a#", "@a"]:
            self.asked(desk, "where " + label, "none")

    def test_cost(self):
        lines = ["# A head that is long enough for two lines", "- an item, also with more than one line in it",
                 "A paragraph with aabbccdd words aabbccdd^{And a long note of two lines that are not counted.}",
                 "#float 5 {a text that is long enough for more than one line}", "|a b c d e f|g h i j k l m n o p|",
                 "#contents", "more ^!{entries}", "#index", "#page", "z"]
        costs = line_costs(STYLE)
        desk = self.desk(*lines)
        layout, _ = build(read("\n".join(lines)), STYLE)
        kinds = [one.source[0] for one in layout.made]
        self.assertEqual(sorted(set(kinds)), ["float", "head", "item", "para", "row"])
        of_lines = [cost_of(one.parts, 200, 10000, costs, one.breaks) for one in layout.made if one.source[0] != "row"]
        self.assertTrue(all(of_lines[:4]))
        told = f"lines {sum(of_lines)} pages {total_cost(layout.matter, layout.pages)}"
        self.asked(desk, "cost", told)
        self.assertNotIn("pages 0", told)
        self.asked(desk, "check", "right")

    def test_check(self):
        desk = self.desk("# A", "b c^{d}", "|e|f|", "#float 3 {g}", "- h", "#page", "i")
        self.asked(desk, "check", "right")
        for at, kind in enumerate(["head", "para", "row", "float", "item", "para"]):
            one = desk.session.layout.made[at]
            self.assertEqual(one.source[0], kind)
            if kind != "row":
                right, one.paper = one.paper, one.paper[:-1]
                self.asked(desk, "check", "wrong")
                one.paper = right
        layout = desk.session.layout
        right, layout.pages = layout.pages, layout.pages[:-1]
        self.asked(desk, "check", "wrong")
        layout.pages = right
        self.asked(desk, "check", "right")
        with mock.patch.object(desk_module, "paper", lambda matter: []):
            self.asked(desk, "check", "wrong")

    def test_two_desks(self):
        first, second = self.desk("a"), self.desk()
        self.texts(second)
        self.asked(first, "build", "pages 1 rounds 1 made 1 same 0")
        self.asked(second, "build", "pages 0 rounds 1 made 0 same 0")


if __name__ == "__main__":
    unittest.main()

"""Audits: points 18.5 to 18.8. The reading of pages, the rules and the distances."""

from collections import Counter
import random
import unittest

from galleypapers.audit import audit
from galleypapers.errors import GalleyError
from galleypapers.galley import Known, build, laid_out
from galleypapers.together import laid_out_jointly
from tests.audit_changes import changed
from tests.documents import GAPS, floating, head, item, note, para, plain_style, some_document, text
from tests.helper import call
from tests.slow_audit import slow_audit
from tests.test_audit import LONG, STYLE, AuditCase, its_style, line, long_lines, long_para, pages, row

BREAK = ("page",)


def h1(room, signs="h"):
    """The line of the first head of the level 1."""
    return line(room, row(0, "1", "head1"), row(30, signs, "head1"))


def small(room, *signs):
    """A line of a note or of a float."""
    rows = []
    x = 0
    for one in signs:
        rows.append(row(x, one, "note"))
        x += 6 * len(one) + 10
    return line(room, *rows)


def with_limits(**limits):
    return its_style(limits={**STYLE[10], **limits})


def with_gap(name, gap, **parts):
    return its_style(gaps={**STYLE[9], name: gap}, **parts)


class TestReading(AuditCase):
    """Point 18.5."""

    def test_blocks_from_the_first_to_the_last_one(self):
        document = [para("a"), para("b"), para("c")]
        lines = [line(0, "a"), line(7, "b"), line(7, "c")]
        self.check(None, document, lines)
        for wrong in [[], lines[:2], lines[1:], lines[:1] + lines[2:], lines + lines[2:], [lines[0], lines[2], lines[1]]]:
            self.check("words", document, wrong)
        self.check("words", document)
        self.check("words", [], [line(0, "a")])
        self.assertIsNone(self.told([], []))

    def test_blocks_begin_lines(self):
        self.check("words", [para("a"), para("b")], [line(0, row(0, "a"), row(30, "b"))])
        self.check("words", [para("a"), para("b c")], [line(0, row(0, "a"), row(30, "b")), line(7, "c")])
        self.check("words", [para("a b"), para("c")], [line(0, "a"), line(3, row(0, "b"), row(30, "c"))])
        self.check("words", [floating(0, "x"), para("a")], [line(0, row(0, "x", "note"), row(30, "a"))])
        self.check("words", [para("a", note("x"))], [line(0, row(0, "a"), row(10, "1", "note"), row(50, "1", "note"),
                                                          row(70, "x", "note"))])

    def test_lines_go_on_on_the_next_page(self):
        document = [long_para(4), para("b")]
        good = [long_lines(2, first=0), [*long_lines(2, first=0), line(7, "b")]]
        self.check(None, document, *good)
        self.check(None, document, good[0], good[0], [line(0, "b")])
        self.check("words", document, good[0], good[0], good[0])
        self.check("words", document, good[0], good[0])
        self.check("words", document, good[0], [*long_lines(3, first=0), line(7, "b")])
        self.check("words", document, good[1], good[0])
        self.check(None, [para("abcd x")], [line(0, "ab=")], [line(0, row(0, "cd"), row(40, "x"))],
                   style=with_limits(keep=1))
        self.check("words", [para("abcd x")], [line(0, "ab=")], [line(0, row(40, "x"))], style=with_limits(keep=1))

    def test_floats_come_first(self):
        document = [para("a"), floating(5, "x"), para("b")]
        lines = [small(5, "x"), line(7, "a"), line(7, "b")]
        self.check(None, document, lines)
        self.check("words", document, [lines[1], lines[0], lines[2]])
        self.check("words", document, [lines[1], lines[2], lines[0]])
        self.check("words", document, lines[1:])
        self.check("words", document, [lines[0], *lines])

    def test_floats_stand_on_the_pages_that_the_table_tells(self):
        document = [para("a"), floating(5, "x"), BREAK, para("b")]
        first, second = [line(0, "a")], [line(0, "b")]
        self.check(None, document, [small(5, "x"), line(7, "a")], second, table=[1])
        self.check(None, document, first, [small(5, "x"), line(7, "b")], table=[2])
        self.check("words", document, [small(5, "x"), line(7, "a")], second, table=[2])
        self.check("words", document, first, [small(5, "x"), line(7, "b")], table=[1])
        for page in (0, 3, -1, 99):
            self.check("words", document, [small(5, "x"), line(7, "a")], second, table=[page])
            self.check("words", document, first, second, table=[page])
        self.check(None, document, first, second, [small(5, "x")], table=[3])

    def test_floats_of_a_page_stand_in_order(self):
        document = [floating(5, "x"), floating(4, "y z"), para("a")]
        good = [small(5, "x"), small(11, "y", "z"), line(7, "a")]
        self.check(None, document, good)
        self.check("words", document, [small(4, "y", "z"), small(12, "x"), line(7, "a")])
        self.check("words", document, [small(5, "x"), small(11, "y"), line(7, "a")])
        self.check("rules", document, [small(4, "y", "z"), line(7, "a")], [small(5, "x")], table=[2, 1])

    def test_notes_stand_on_the_pages_of_their_marks(self):
        document = [para("a", note("x")), BREAK, para("b", note("y"))]
        first, second = line(0, row(0, "a"), row(10, "1", "note")), line(0, row(0, "b"), row(10, "2", "note"))
        one, two = small(6, "1", "x"), small(6, "2", "y")
        self.check(None, document, [first, one], [second, two])
        self.check("words", document, [first], [second, one, two])
        self.check("words", document, [first], [second, small(6, "1", "x"), small(0, "2", "y")])
        self.check("words", document, [first, one, small(0, "2", "y")], [second])
        self.check("words", document, [first, two], [second, one])
        self.check("words", document, [one, first], [second, two])

    def test_notes_ascend(self):
        document = [para("a", note("x"), note("y z"), " b", note("w"))]
        mark = line(0, row(0, "a"), row(10, "1", "note"), row(16, "2", "note"), row(40, "b"), row(50, "3", "note"))
        notes = [small(6, "1", "x"), small(0, "2", "y", "z"), small(0, "3", "w")]
        self.check(None, document, [mark, *notes])
        self.check(None, document, [mark, notes[0], small(0, "2", "y"), small(6, "z"), notes[2]])
        for wrong in [notes[:2], [notes[0], small(0, "3", "w"), small(0, "2", "y", "z")], [*notes, small(0, "4", "v")],
                      [small(6, "1", "x", "2", "y", "z"), notes[2]], [notes[0], small(0, "2", "y"), notes[2]]]:
            self.check("words", document, [mark, *wrong])

    def test_notes_of_a_paragraph_on_two_pages(self):
        document = [para(LONG, " b", note("x"), " " + LONG, note("y"), " " + LONG)]
        lines = [line(0, LONG), line(3, row(0, "b"), row(10, "1", "note")), line(0, row(0, LONG), row(90, "2", "note")),
                 line(3, LONG)]
        self.check(None, document, [*lines[:2], small(6, "1", "x")], [*lines[2:], small(6, "2", "y")])
        self.check("words", document, [*lines[:2]], [*lines[2:], small(6, "1", "x"), small(0, "2", "y")])

    def test_what_could_be_a_note_or_not(self):
        # The second line could be the note of the first one, or the paragraph behind.
        document = [para("a", note("2")), para(note("x")), para("b")]
        lines = [line(0, row(0, "a"), row(10, "1", "note")), line(9, row(0, "2", "note"))]
        self.check(None, document, [*lines, line(8, "b"), small(6, "1", "2"), small(0, "2", "x")])
        document = [para("a", note("b")), BREAK, para(text("1 b", "note")), para("c", note("d"))]
        first, second = line(0, row(0, "a"), row(10, "1", "note")), line(7, row(0, "c"), row(10, "2", "note"))
        self.check(None, document, [first, small(6, "1", "b")], [small(0, "1", "b"), line(7, *second[1]), small(6, "2", "d")])
        # With another paragraph ahead of the note only the second reading keeps the rules.
        document = [para("a", note("b")), para(text("1 b", "note")), para("c")]
        self.check(None, document, [first, small(9, "1", "b"), small(6, "1", "b")], [line(0, "c")])
        self.check("words", document, [first, small(9, "1", "b")], [line(0, "c")])
        self.check(None, document, [first, small(6, "1", "b")], [small(0, "1", "b"), line(8, "c")])

    def test_heads_stand_on_the_pages_that_the_table_tells(self):
        document = [para("a"), BREAK, head(1, "h"), para("b")]
        contents = [line(0, "a")], [h1(0), line(7, "b")]
        self.check(None, document, *contents, table=[2])
        for page in (0, 1, 3, -2):
            self.check("words", document, *contents, table=[page])
        # Of a head on two pages it is the first line; but no page may end within one.
        self.check("rules", [head(1, "h k"), para("b")], [h1(0)], [line(0, row(0, "k", "head1")), line(7, "b")], table=[1])
        self.check("words", [head(1, "h k"), para("b")], [h1(0)], [line(0, row(0, "k", "head1")), line(7, "b")], table=[2])

    def test_marks_stand_on_the_pages_that_the_table_tells(self):
        document = [para(("mark", "m"), LONG, " ", LONG, ("mark", "n"), " ", ("mark", "o"), LONG, " ", LONG, ("mark", "p"))]
        contents = long_lines(2, first=0), long_lines(2, first=0)
        # The second and the third mark stand between two pages.
        for table in [[1, 1, 1, 2], [1, 2, 2, 2], [1, 1, 2, 2], [1, 2, 1, 2]]:
            self.check(None, document, *contents, table=table)
        for table in [[2, 1, 1, 2], [1, 1, 1, 1], [1, 0, 1, 2], [1, 3, 1, 2], [1, 1, 3, 2], [0, 1, 1, 2], [1, 1, 1, 3]]:
            self.check("words", document, *contents, table=table)

    def test_marks_within_lines(self):
        document = [para("a", ("mark", "m"), "c ", ("mark", "n"), " d"), BREAK, para("b")]
        first = [line(0, row(0, "ac"), row(30, "d"))]
        self.check(None, document, first, [line(0, "b")], table=[1, 1])
        for table in [[1, 2], [2, 1], [0, 1]]:
            self.check("words", document, first, [line(0, "b")], table=table)

    def test_marks_behind_one_character(self):
        document = [para("c", ("mark", "m"), " d")]
        for page, told in [(1, None), (2, None), (0, "words"), (3, "words")]:
            self.check(told, document, [line(0, "c")], [line(0, "d")], table=[page], style=with_limits(keep=1))

    def test_marks_look_at_their_own_block_alone(self):
        document = [para("a", ("mark", "m")), BREAK, para(("mark", "n"), "b")]
        self.check(None, document, [line(0, "a")], [line(0, "b")], table=[1, 2])
        self.check("words", document, [line(0, "a")], [line(0, "b")], table=[2, 2])
        self.check("words", document, [line(0, "a")], [line(0, "b")], table=[1, 1])

    def test_marks_in_rows_of_tables(self):
        document = [para("a"), BREAK, ("table", [[[text("c"), ("mark", "m")], [("mark", "n")]]])]
        contents = [line(0, "a")], [line(0, "c")]
        self.check(None, document, *contents, table=[2, 2])
        self.check("words", document, *contents, table=[2, 1])
        self.check("words", document, *contents, table=[1, 2])

    def test_empty_pages(self):
        document = [para("a"), para("b")]
        good = pages([line(0, "a")], [line(0, "b")])
        self.assertIsNone(self.told(document, good))
        for at in range(3):
            wrong = good[:at] + [("page", 0, [])] + good[at:]
            self.assertEqual(self.told(document, [("page", k + 1, one[2]) for k, one in enumerate(wrong)]), "rules")
        self.assertEqual(self.told([], [("page", 1, [])]), "rules")


class TestRules(AuditCase):
    """Point 18.6."""

    def test_pages_with_floats_alone(self):
        document = [para("a"), floating(5, "x"), floating(5, "y"), para("b")]
        first, second = [line(0, "a")], [line(0, "b")]
        self.check("rules", document, first, [small(5, "x"), small(12, "y")], second, table=[2, 2])
        self.check(None, document, first, [small(5, "x"), line(7, "b")], [small(5, "y")], table=[2, 3])
        self.check(None, document, first, second, [small(5, "x"), small(12, "y")], table=[3, 3])
        self.check(None, document, first, second, [small(5, "x")], [small(5, "y")], table=[3, 4])
        self.check(None, [floating(5, "x")], [small(5, "x")])
        # The page ahead of it could have no line of the main flow.
        self.check("rules", document[:3], [small(5, "x")], [line(0, "a")], [small(5, "y")], table=[1, 3])

    def test_new_pages(self):
        document = [para("a"), BREAK, para("b"), para("c")]
        self.check(None, document, [line(0, "a")], [line(0, "b"), line(7, "c")])
        self.check("rules", document, [line(0, "a"), line(7, "b"), line(7, "c")])
        self.check("rules", document, [line(0, "a"), line(7, "b")], [line(0, "c")])
        self.check(None, [BREAK, para("a"), BREAK], [line(0, "a")])
        self.check(None, [BREAK, BREAK, para("a"), BREAK, BREAK, para("b")], [line(0, "a")], [line(0, "b")])
        self.check("rules", [para("a"), floating(5, "x"), BREAK, para("b")], [small(5, "x"), line(7, "a"), line(7, "b")])
        self.check("rules", [para("a"), BREAK, floating(5, "x"), para("b")], [line(0, "a"), line(7, "b")], [small(5, "x")],
                   table=[2])
        # Floats may stand ahead of the block.
        self.check(None, [para("a"), BREAK, floating(5, "x"), para("b")], [line(0, "a")], [small(5, "x"), line(7, "b")],
                   table=[2])

    def test_heads_are_not_parted(self):
        document = [head(1, "h k"), para("a")]
        both = [h1(0), line(1, row(0, "k", "head1"))]
        self.check(None, document, [*both, line(7, "a")])
        self.check("rules", document, both[:1], [line(0, *both[1][1]), line(7, "a")], table=[1])

    def test_rows_are_not_parted(self):
        document = [("table", [[[text("abz cd")]], [[text("x")]]]), para("a")]
        document[0][1][0][0][0] = text(LONG + " cd")
        self.check(None, document, [line(0, LONG), line(3, "cd"), line(5, "x"), line(7, "a")])
        self.check("rules", document, [line(0, LONG)], [line(0, "cd"), line(5, "x"), line(7, "a")])
        self.check(None, document, [line(0, LONG), line(3, "cd")], [line(0, "x"), line(7, "a")])

    def test_no_page_ends_behind_a_head(self):
        document = [head(1, "h"), para("a")]
        self.check(None, document, [h1(0), line(7, "a")])
        self.check("rules", document, [h1(0)], [line(0, "a")])
        self.check(None, [head(1, "h"), BREAK, para("a")], [h1(0)], [line(0, "a")])
        self.check(None, [para("a"), head(1, "h")], [line(0, "a"), h1(10)])
        self.check(None, [para("a"), head(1, "h"), floating(5, "x")], [line(0, "a"), h1(10)], [small(5, "x")], table=[1, 2])
        self.check("rules", [para("a"), head(1, "h"), floating(5, "x"), para("b")], [line(0, "a"), h1(10)],
                   [small(5, "x"), line(7, "b")], table=[1, 2])
        self.check("rules", [head(1, "h"), head(2, "k"), para("a")], [h1(0)],
                   [line(0, row(0, "1.1", "head2"), row(50, "k", "head2")), line(7, "a")], table=[1, 2])

    def test_lines_to_keep_ahead_of_the_end_of_a_page(self):
        document = [long_para(6)]
        for keep, many, told in [(1, 1, None), (2, 1, "rules"), (2, 2, None), (3, 2, "rules"), (3, 3, None), (2, 4, None)]:
            self.check(told, document, long_lines(many, first=0), long_lines(6 - many, first=0), style=with_limits(keep=keep))
        # All lines ahead count, also those of pages before.
        self.check(None, document, long_lines(2, first=0), long_lines(1, first=0), long_lines(3, first=0))
        self.check("rules", document, long_lines(1, first=0), long_lines(2, first=0), long_lines(3, first=0))

    def test_lines_to_keep_on_the_last_page(self):
        document = [long_para(6)]
        for keep, many, told in [(1, 1, None), (2, 1, "rules"), (2, 2, None), (3, 2, "rules"), (3, 3, None)]:
            self.check(told, document, long_lines(6 - many, first=0), long_lines(many, first=0), style=with_limits(keep=keep))
        self.check(None, document, long_lines(3, first=0), long_lines(1, first=0), long_lines(2, first=0))
        self.check("rules", document, long_lines(3, first=0), long_lines(2, first=0), long_lines(1, first=0))
        # Lines of other blocks do not count.
        self.check("rules", [long_para(3), para("b")], long_lines(2, first=0), [*long_lines(1, first=0), line(7, "b")])
        self.check("rules", [para("b"), long_para(3)], [line(0, "b"), line(7, LONG)], long_lines(2, first=0))
        self.check(None, [long_para(1), long_para(1)], long_lines(1, first=0), long_lines(1, first=0))

    def test_floats_on_a_page(self):
        document = [floating(5, "x"), floating(5, "y"), para("a")]
        both = [small(5, "x"), small(12, "y"), line(7, "a")]
        for most, told in [(2, None), (3, None), (1, "rules"), (0, "rules")]:
            self.check(told, document, both, style=with_limits(floats=most))
        self.check(None, document, [small(5, "x"), line(7, "a")], [small(5, "y")], table=[1, 2], style=with_limits(floats=1))
        self.check("rules", document, [small(5, "y"), line(7, "a")], [small(5, "x")], table=[2, 1])

    def test_floats_come_behind_their_places(self):
        document = [para("a"), BREAK, para("b"), floating(5, "x"), para("c")]
        self.check("rules", document, [small(5, "x"), line(7, "a")], [line(0, "b"), line(7, "c")], table=[1])
        self.check(None, document, [line(0, "a")], [small(5, "x"), line(7, "b"), line(7, "c")], table=[2])
        self.check(None, document, [line(0, "a")], [small(5, "x"), line(7, "b")], [line(0, "c")], table=[2])
        long = [long_para(4), floating(5, "x"), para("c")]
        self.check("rules", long, [small(5, "x"), *long_lines(2, first=7)], [*long_lines(2, first=0), line(7, "c")], table=[1])
        self.check(None, long, long_lines(2, first=0), [small(5, "x"), *long_lines(2, first=7), line(7, "c")], table=[2])
        self.check(None, [floating(5, "x"), para("a")], [small(5, "x"), line(7, "a")], table=[1])

    def test_floats_behind_new_pages(self):
        document = [para("a"), BREAK, floating(5, "x"), para("b"), para("c")]
        self.check("rules", document, [small(5, "x"), line(7, "a")], [line(0, "b"), line(7, "c")], table=[1])
        self.check(None, document, [line(0, "a")], [small(5, "x"), line(7, "b"), line(7, "c")], table=[2])
        # A line of the next block is enough.
        document = [para("a"), BREAK, floating(5, "x"), long_para(4)]
        self.check(None, document, [line(0, "a")], [small(5, "x"), *long_lines(2, first=7)], long_lines(2, first=0), table=[2])
        # Without a new page the float may stand on the page before.
        self.check(None, [para("a"), floating(5, "x"), BREAK, para("b")], [small(5, "x"), line(7, "a")], [line(0, "b")],
                   table=[1])
        # There is no next block.
        self.check(None, [para("a"), BREAK, floating(5, "x")], [small(5, "x"), line(7, "a")])
        self.check(None, [BREAK, floating(5, "x"), long_para(4)], [small(5, "x"), *long_lines(2, first=7)],
                   long_lines(2, first=0), table=[1])

    def test_the_height_of_notes(self):
        document = [para("a", note("x"), note("y z"))]
        mark = line(0, row(0, "a"), row(10, "1", "note"), row(16, "2", "note"))
        notes = [small(6, "1", "x"), small(0, "2", "y"), small(6, "z")]
        # Three lines of 6, and 6 between the last two.
        for most, told in [(24, None), (25, None), (23, "rules"), (0, "rules")]:
            self.check(told, document, [mark, *notes], style=with_limits(notes=most))
        self.check(None, [para("a")], [line(0, "a")], style=with_limits(notes=0))
        self.check("rules", document, [mark, *notes[:2], small(7, "z")], style=with_limits(notes=24))
        self.check("distances", document, [mark, *notes[:2], small(7, "z")], style=with_limits(notes=25))

    def test_some_reading_must_keep_all_rules(self):
        # The line "1 b" is the second paragraph or the note; only one of these keeps the rules.
        first = line(0, row(0, "a"), row(10, "1", "note"))
        document = [para("a", note("b")), BREAK, para(text("1 b", "note")), para("c")]
        self.check(None, document, [first, small(6, "1", "b")], [small(0, "1", "b"), line(8, "c")])
        self.check("rules", document, [first, small(9, "1", "b"), small(6, "1", "b")], [line(0, "c")])


class TestDistances(AuditCase):
    """Point 18.7."""

    def rooms(self, told, document, *contents, style=STYLE, table=None):
        """Look at a page for each room; the others tell that there is a fault."""
        for room in range(0, 40):
            lines = [line(room if one[0] is None else one[0], *one[1]) for one in contents]
            self.check(None if room in told else "distances", document, lines, style=style, table=table)

    def test_lines_of_a_block(self):
        self.rooms([3], [para("a b")], line(0, "a"), line(None, "b"))
        self.rooms([3], [item(1, "a b")], line(0, "a"), line(None, "b"))
        self.rooms([1], [head(1, "h k"), para("a")], h1(0), line(None, row(0, "k", "head1")), line(7, "a"))
        self.rooms([5], [para("a b")], line(0, "a"), line(None, "b"), style=its_style(limits={**STYLE[10], "least": 5}))
        self.rooms([11], [para("a b")], line(0, "a"), line(None, "b"), style=its_style(leading=20))
        self.rooms([0], [para("a b")], line(0, "a"), line(None, "b"), style=its_style(leading=5, limits={
            **STYLE[10], "least": 0}))

    def test_heights_and_depths_are_those_of_the_line(self):
        fonts = dict(STYLE[1])
        fonts["strong"] = (*fonts["strong"][:2], {**fonts["strong"][2], "b": (12, 9, 0), "p": (12, 1, 4)}, {})
        style = its_style(fonts=fonts)
        b, p, both = text("b", "strong"), text("p", "strong"), text("bp", "strong")
        for runs, first, second, room in [
                (["a ", b], row(0, "a"), row(0, "b", "strong"), 1), (["a ", p], row(0, "a"), row(0, "p", "strong"), 9),
                ([p, " a"], row(0, "p", "strong"), row(0, "a"), 1), ([b, " a"], row(0, "b", "strong"), row(0, "a"), 5),
                ([both, " a"], row(0, "bp", "strong"), row(0, "a"), 1)]:
            for more, told in [(-1, "distances"), (0, None), (1, "distances")]:
                self.at_baselines(told, [para(*runs)], style, first, second, room + more)

    def at_baselines(self, told, document, style, first, second, room):
        """Look at two lines, each of one row, with a room between them."""
        sizes = {"a": (7, 2), "b": (9, 0), "p": (1, 4), "bp": (9, 4)}
        (height, depth), (lower, _) = sizes["".join(first[2])], sizes["".join(second[2])]
        rows = [(first[0], height, *first[1:]), (second[0], height + depth + room + lower, *second[1:])]
        self.assertEqual(self.told(document, [("page", 1, rows)], style=style), told)

    def test_soft_hyphens_have_no_height(self):
        fonts = dict(STYLE[1])
        fonts["text"] = (*fonts["text"][:2], {**fonts["text"][2], "-\n": (5, 30, 30)}, {})
        style = its_style(fonts=fonts)
        self.rooms([3], [para("abcd")], line(0, "ab="), line(None, "cd"), style=style)
        self.rooms([3], [para("abcd")], line(0, row(0, "ab"), row(20, "=")), line(None, "cd"), style=style)

    def test_the_highest_glyph_of_a_line(self):
        self.rooms([1], [para("a ffz")], line(0, "a"), line(None, row(0, "[ff]z")))
        self.rooms([3], [para("a ffz")], line(0, "a"), line(None, row(0, "ffz")))
        self.rooms([1], [para("a ", "ff z")], line(0, "a"), line(None, row(0, "[ff]"), row(40, "z")))

    def test_blocks(self):
        # Lines of paragraphs are 3 apart; a gap with stretch may be any higher.
        self.rooms(range(6, 40), [para("a"), para("b")], line(0, "a"), line(None, "b"))
        self.rooms([6, 7], [para("a"), para("b")], line(0, "a"), line(None, "b"), style=with_gap("paragraph", (4, 0, 1)))
        self.rooms([7], [para("a"), para("b")], line(0, "a"), line(None, "b"), style=with_gap("paragraph", (4, 0, 0)))
        self.rooms([3], [para("a"), para("b")], line(0, "a"), line(None, "b"), style=with_gap("paragraph", (0, 0, 0)))
        self.rooms(range(3, 8), [para("a"), para("b")], line(0, "a"), line(None, "b"),
                   style=with_gap("paragraph", (4, 0, 4)))

    def test_gaps_by_kinds(self):
        gaps = {name: (at, 0, 0) for at, name in enumerate(["above", "below", "paragraph", "item"], 20)}
        style = its_style(gaps={**STYLE[9], **gaps}, leading=1)
        # Lines are at least 1 apart.
        self.rooms([21], [para("a"), head(1, "h")], line(0, "a"), h1(None), style=style)
        self.rooms([21], [head(1, "h"), head(1, "k")], h1(0), line(None, row(0, "2", "head1"), row(30, "k", "head1")),
                   style=style)
        self.rooms([22], [head(1, "h"), para("a")], h1(0), line(None, "a"), style=style)
        self.rooms([22], [head(1, "h"), item(1, "a")], h1(0), line(None, "a"), style=style)
        self.rooms([23], [para("a"), item(1, "b")], line(0, "a"), line(None, "b"), style=style)
        self.rooms([23], [item(1, "a"), para("b")], line(0, "a"), line(None, "b"), style=style)
        self.rooms([24], [item(1, "a"), item(2, "b")], line(0, "a"), line(None, "b"), style=style)
        two_rows = ("table", [[[text("a")]], [[text("b")]]])
        self.rooms([24], [two_rows], line(0, "a"), line(None, "b"), style=style)
        self.rooms([24], [("table", [[[text("a")]]]), ("table", [[[text("b")]]])], line(0, "a"), line(None, "b"), style=style)
        self.rooms([23], [para("a"), ("table", [[[text("b")]]])], line(0, "a"), line(None, "b"), style=style)
        self.rooms([23], [item(1, "a"), ("table", [[[text("b")]]])], line(0, "a"), line(None, "b"), style=style)

    def test_floats_between_blocks_in_the_document_change_nothing(self):
        self.rooms([7], [para("a"), floating(0, "x"), para("b")], small(0, "x"), line(7, "a"), line(None, "b"),
                   style=with_gap("paragraph", (4, 0, 0)))

    def test_the_first_line_of_the_main_flow(self):
        self.rooms([0], [para("a")], line(None, "a"))
        self.rooms([0], [head(1, "h"), para("a")], h1(None), line(7, "a"))
        self.rooms(range(4, 40), [floating(5, "x"), para("a")], small(5, "x"), line(None, "a"))
        self.rooms([4, 5, 6, 7], [floating(5, "x"), para("a")], small(5, "x"), line(None, "a"), style=with_gap(
            "float", (7, 0, 3)))
        self.rooms([7], [floating(5, "x"), head(1, "h"), para("a")], small(5, "x"), h1(None), line(7, "a"), style=with_gap(
            "float", (7, 0, 0)), table=[1, 1])

    def test_the_first_line_of_later_pages(self):
        document = [long_para(4)]
        for room, told in [(0, None), (1, "distances"), (3, "distances")]:
            self.check(told, document, long_lines(2, first=0), long_lines(2, first=room))

    def test_floats(self):
        for height in (0, 5, 9):
            self.rooms([height], [floating(height, "x"), para("a")], small(None, "x"), line(7, "a"))
        # Above the second float the gap is higher by its height.
        document = [floating(5, "x"), floating(6, "y"), para("a")]
        self.rooms(range(10, 40), document, small(5, "x"), small(None, "y"), line(7, "a"))
        self.rooms(range(10, 14), document, small(5, "x"), small(None, "y"), line(7, "a"), style=with_gap("float", (7, 0, 3)))
        self.rooms([6], [floating(5, "x y"), para("a")], small(5, "x"), small(None, "y"), line(7, "a"))

    def test_notes(self):
        document = [para("a", note("x"), note("y z"))]
        mark = line(0, row(0, "a"), row(10, "1", "note"), row(16, "2", "note"))
        self.rooms(range(4, 40), document, mark, small(None, "1", "x"), small(0, "2", "y", "z"))
        for gap in [(6, 0, 2), (6, 9, 2), (4, 0, 0)]:
            self.rooms(range(4, 40), document, mark, small(None, "1", "x"), small(0, "2", "y", "z"),
                       style=with_gap("note", gap))
        self.rooms([0], document, mark, small(6, "1", "x"), small(None, "2", "y", "z"))
        self.rooms([6], document, mark, small(6, "1", "x"), small(0, "2", "y"), small(None, "z"))

    def test_the_bottom_of_a_page(self):
        for height, told in [(9, None), (8, "distances"), (7, "distances"), (10, None)]:
            self.check(told, [para("a")], [line(0, "a")], style=its_style(height=height))
        document = [para("a", note("x"))]
        lines = [line(0, row(0, "a"), row(10, "1", "note")), small(6, "1", "x")]
        for height, told in [(21, None), (20, "distances")]:
            self.check(told, document, lines, style=its_style(height=height))
        for height, told in [(11, None), (10, "distances")]:
            self.check(told, [floating(5, "x")], [small(5, "x")], style=its_style(height=height))

    def test_all_pages(self):
        document = [para("a"), BREAK, para("b"), para("c"), BREAK, para("d")]
        for room, told in [(6, None), (5, "distances")]:
            self.check(told, document, [line(0, "a")], [line(0, "b"), line(room, "c")], [line(0, "d")])

    def test_some_reading_must_keep_the_rules_and_the_distances(self):
        first = line(0, row(0, "a"), row(10, "1", "note"))
        document = [para("a", note("b")), para(text("1 b", "note")), para("c")]
        # With a room of 9 the line could be the second paragraph; then the note is missing.
        for room, told in [(4, None), (3, "distances")]:
            self.check(told, document, [first, small(room, "1", "b")], [small(0, "1", "b"), line(8, "c")])


class TestWhole(AuditCase):
    """Point 18.8."""

    def test_pages_of_build_have_no_fault(self):
        styles = [plain_style(), plain_style(limits={"notes": 40, "floats": 1, "keep": 1, "least": 3}, height=90),
                  plain_style(limits={"notes": 60, "floats": 2, "keep": 3, "least": 3}, height=200, leading=5),
                  plain_style(gaps={name: (3, 0, 0) for name in GAPS}), plain_style(space=(9, 0, 0), measure=130)]
        found = 0
        for seed in range(70):
            document = some_document(seed)
            for style in styles:
                try:
                    layout, tables = build(document, style)
                except GalleyError:
                    continue
                found += 1
                self.assertIsNone(call(self, audit, document, style, tables[-1], layout.placed))
        self.assertGreater(found, 250)

    def test_joint_layouts_have_no_fault_but_the_pages_of_the_table(self):
        found = 0
        for seed in range(60):
            document = [block for block in some_document(seed) if block[0] not in ("head", "float")]
            document = [block for block in document if "'ref'" not in repr(block) and "'page', '" not in repr(block)
                        and "'mark'" not in repr(block)]
            try:
                layouts = [laid_out_jointly(document, STYLE, [], Known(), 2), laid_out(document, STYLE, [], Known())]
            except GalleyError:
                continue
            found += 1
            for layout in layouts:
                self.assertIsNone(audit(document, STYLE, [], layout.placed))
        self.assertGreater(found, 20)

    def test_changed_pages(self):
        chance = random.Random(4)
        told = Counter()
        seed = 0
        while sum(told.values()) < 1500:
            seed += 1
            document = some_document(seed)
            style = chance.choice([plain_style(), plain_style(limits={"notes": 40, "floats": 1, "keep": 1, "least": 3})])
            try:
                layout, tables = build(document, style)
            except GalleyError:
                continue
            for _ in range(20):
                case = changed(chance, document, style, tables[-1], layout.placed)
                try:
                    fault = slow_audit(*case)
                except GalleyError:
                    continue
                self.assertEqual(audit(*case), fault)
                told[fault] += 1
        for fault in (None, "form", "lines", "words", "rules", "distances"):
            self.assertGreater(told[fault], 25)


if __name__ == "__main__":
    unittest.main()

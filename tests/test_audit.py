"""Audits: points 18.1 to 18.8. The faults of pages that are set by hand, one after the other."""

import unittest

from galleypapers.audit import audit
from galleypapers.errors import LabelError, TableError
from galleypapers.fonts import SOFT
from galleypapers.references import numbers_of
from galleypapers.tables import table_widths
from tests.documents import floating, head, item, note, para, plain_style, text
from tests.helper import call, fault

PATTERNS = ("hyphens", ["b1c", "f1f"], [], 1, 1)
KERNS = {("a", "b"): -4, ("c", SOFT): -2, (SOFT, "d"): -3}


def its_style(**parts):
    """A style with lines of 10 letters; lines of texts are 7 high, 2 deep, and 3 apart."""
    fonts = dict(plain_style()[1])
    _, name, glyphs, _ = fonts["text"]
    sizes = {"ff": (15, 9, 2), "bc": (20, 7, 2), "bcd": (30, 7, 2)}
    fonts["text"] = ("font", name, {**glyphs, **sizes}, KERNS)
    whole = {"fonts": fonts, "measure": 100, "hyphens": PATTERNS, "indent": 0}
    whole.update(parts)
    return plain_style(**whole)


STYLE = its_style()
SIZES = {"text": (7, 2), "strong": (7, 2), "note": (5, 1), "head1": (11, 3), "head2": (9, 3)}
LONG = "aaaaaaaaa"


def glyphs_of(signs):
    """The glyphs of a string; `=` stands for the soft hyphen, and [ff] for a ligature."""
    found = []
    while signs:
        size = signs.index("]") + 1 if signs[0] == "[" else 1
        found.append(SOFT if signs[0] == "=" else signs[:size].strip("[]"))
        signs = signs[size:]
    return found


def row(x, signs, use="text"):
    return (x, use, glyphs_of(signs))


def line(room, *rows):
    """A line with a room above it; a row alone may be a string."""
    return (room, [row(0, one) if isinstance(one, str) else one for one in rows])


def sized(line):
    """The height and the depth of a line."""
    heights = [(9, 2) if "ff" in glyphs else SIZES[use] for _, use, glyphs in line[1] if set(glyphs) != {SOFT}]
    return max([size[0] for size in heights], default=0), max([size[1] for size in heights], default=0)


def page(number, *lines):
    """A page whose lines have rooms above them."""
    rows = []
    bottom = 0
    for one in lines:
        height, depth = sized(one)
        baseline = bottom + one[0] + height
        rows += [(x, baseline, use, glyphs) for x, use, glyphs in one[1]]
        bottom = baseline + depth
    return ("page", number, rows)


def pages(*contents):
    """Pages that are numbered from 1 on."""
    return [page(at + 1, *lines) for at, lines in enumerate(contents)]


def long_lines(many, room=3, first=3):
    """Lines of long words."""
    return [line(room if at else first, LONG) for at in range(many)]


def long_para(many):
    """A paragraph of so many lines."""
    return para(" ".join([LONG] * many))


class AuditCase(unittest.TestCase):
    def told(self, document, its_pages, table=None, style=STYLE):
        if table is None:
            table = [1] * len(numbers_of(document).order)
        return call(self, audit, document, style, table, its_pages)

    def check(self, told, document, *contents, table=None, style=STYLE):
        self.assertEqual(self.told(document, pages(*contents), table, style), told)

    def words(self, told, runs, *rows):
        """Look at a paragraph on one line, the first of two."""
        self.check(told, [para(*runs), para("z")], [line(0, *rows), line(7, "z")])


class TestForm(AuditCase):
    """Point 18.2."""

    def test_no_fault(self):
        self.assertIsNone(self.told([], []))
        self.check(None, [para("ab cd")], [line(0, row(20, "ab"), row(50, "cd"))])

    def test_numbers_of_pages(self):
        document = [para("a"), ("page",), para("b")]
        good = pages([line(0, "a")], [line(0, "b")])
        self.assertIsNone(self.told(document, good))
        for numbers in [(1, 1), (2, 1), (0, 1), (1, 3), (2, 3), (1, 0)]:
            wrong = [("page", number, one[2]) for number, one in zip(numbers, good)]
            self.assertEqual(self.told(document, wrong), "form")
        self.assertEqual(self.told(document[:1], [("page", 2, good[0][2])]), "form")

    def test_uses(self):
        for use, told in [("text", None), ("note", "words"), ("head3", "form"), ("", "form"), ("Text", "form"),
                          ("plain", "form")]:
            self.assertEqual(self.told([para("ab")], [("page", 1, [(0, 7, use, ["a", "b"])])]), told)

    def test_glyphs(self):
        for glyphs, told in [(["a", "ff"], None), (["a", "f", "f"], None), ([], "form"), (["af", "f"], "form"),
                             (["a", "ff", ""], "form"), (["aff"], "form"), (["a", "ff", "\n"], "form"),
                             (["a", "ff", " "], "form")]:
            y = 9 if "ff" in glyphs else 7
            self.assertEqual(self.told([para("aff")], [("page", 1, [(0, y, "text", glyphs)])]), told)
        # Only the font of texts has the ligature.
        self.assertEqual(self.told([para(text("ff", "strong"))], [("page", 1, [(0, 9, "strong", ["ff"])])]), "form")

    def test_form_comes_first(self):
        for document in [[para(("ref", "x"))], [head(1, "a", "x"), head(1, "a", "x")],
                         [("table", [[[text("b" * 30)]]])]]:
            table = [1, 1][:len([block for block in document if block[0] == "head"])]
            self.assertEqual(call(self, audit, document, STYLE, table, [("page", 2, [])]), "form")
            self.assertEqual(call(self, audit, document, STYLE, table, [("page", 1, [(0, 5, "text", [])])]), "form")
        self.assertEqual(self.told([para("a")], [("page", 2, [(-1, 5, "text", ["a"])])]), "form")

    def test_errors_of_sources(self):
        # They come ahead of the other faults.
        its_pages = [("page", 1, [(-5, 7, "text", ["a"])])]
        self.assertEqual(fault(self, LabelError, audit, [para(("ref", "x"))], STYLE, [], its_pages).label, "x")
        twice = [head(1, "a", "x"), head(1, "a", "x")]
        self.assertEqual(fault(self, LabelError, audit, twice, STYLE, [1, 1], []).label, "x")
        self.assertEqual(fault(self, TableError, audit, [("table", [[[text("b" * 30)]]])], STYLE, [], its_pages).at, 0)


class TestLines(AuditCase):
    """Point 18.3."""

    def test_soft_hyphens_alone(self):
        self.check("lines", [para("a")], [line(0, "a"), (3, [row(0, "=")])])
        self.check("lines", [para("a")], [line(0, "a"), (3, [row(0, "=="), row(20, "=")])])
        self.check("words", [para("a")], [line(0, row(0, "a"), row(20, "="))])
        self.check(None, [para("a")], [line(0, row(0, "="), row(20, "a"))])
        self.check("lines", [], [(3, [row(0, "=")])])

    def test_left_edge(self):
        for x, told in [(0, None), (3, None), (-1, "lines"), (-70, "lines")]:
            self.check(told, [para("a")], [line(0, row(x, "a"))])
        self.check("lines", [para("a")], [line(0, row(-1, "="), row(20, "a"))])
        self.check("lines", [para("a"), para("b")], [line(0, "a"), line(7, row(-1, "b"))])

    def test_right_edge(self):
        for x, told in [(80, None), (81, "lines"), (99, "lines")]:
            self.check(told, [para("ab", "b")], [line(0, row(x - 10, "ab"[:1]), row(x, "bb"))])
        # In the text the two letters stand 4 nearer to each other.
        self.check(None, [para("ab")], [line(0, row(84, "ab"))])
        self.check("lines", [para("ab")], [line(0, row(85, "ab"))])
        self.check("words", [para("a b")], [line(0, row(0, "a"), row(95, "="))])
        self.check("lines", [para("a b")], [line(0, row(0, "a"), row(96, "="))])

    def test_rows_begin_one_behind_the_other(self):
        for x, told in [(9, "words"), (10, None), (1, "words"), (0, "lines")]:
            self.check(told, [para("c", "d")], [line(0, row(0, "c"), row(x, "d"))])
        self.check("lines", [para("c", "d")], [line(0, row(5, "c"), row(5, "d"))])
        # Rows with soft hyphens alone do not count.
        for x in (0, 5, 9):
            self.check(None, [para("c d")], [line(0, row(0, "c"), row(x, "="), row(20, "d"))])
        self.check(None, [para("c d")], [line(0, row(0, "="), row(0, "c"), row(20, "="), row(20, "d"))])
        self.check("lines", [para("c d")], [line(0, row(0, "c"), row(20, "d="), row(20, "="), row(20, "e"))])

    def test_all_lines_of_all_pages(self):
        document = [para("a"), ("page",), para("b"), para("c")]
        good = pages([line(0, "a")], [line(0, "b"), line(7, "c")])
        self.assertIsNone(self.told(document, good))
        self.assertEqual(self.told(document, pages([line(0, "a")], [line(0, "b"), line(7, row(-1, "c"))])), "lines")
        # They come ahead of the words.
        self.assertEqual(self.told(document, pages([line(0, "x")], [line(0, "y"), line(99, row(-1, "z"))])), "lines")


class TestWords(AuditCase):
    """Point 18.4."""

    def test_characters_and_uses(self):
        for runs in [["ab cd"], ["ab", " ", "cd"], [" ab  cd "], ["ab", ("tie",), "cd"], ["ab ", ("mark", "m"), "cd"],
                     ["ab", ("tie",), " cd"], ["a", "b c", "d"], [("tie",), "ab cd", ("mark", "m")]]:
            table = [1] * len([run for run in runs if run[0] == "mark"])
            told = self.told([para(*runs)], pages([line(0, row(0, "ab"), row(30, "cd"))]), table)
            self.assertIsNone(told)
        for rows in [[row(0, "ab")], [row(0, "cd"), row(30, "ab")], [row(0, "ab"), row(30, "cd"), row(70, "e")],
                     [row(0, "ab"), row(30, "ce")], [row(0, "AB"), row(30, "cd")], [row(0, "abcd")],
                     [row(0, "ab", "strong"), row(30, "cd")], [row(0, "ab"), row(30, "cd", "note")],
                     [row(0, "ab"), row(30, "ab"), row(70, "cd")], [row(30, "ab"), row(0, "cd")],
                     [row(0, "a"), row(6, "bc"), row(40, "d")], [row(0, "ab"), row(30, "cdz")]]:
            self.words("words", ["ab cd"], *rows)

    def test_words_with_several_uses(self):
        runs = ["ab", text("cd", "strong"), " ", text("e", "strong")]
        self.words(None, runs, row(0, "ab"), row(16, "cd", "strong"), row(50, "e", "strong"))
        self.words("words", runs, row(0, "ab"), row(16, "cd", "strong"), row(50, "e"))
        self.words("words", runs, row(0, "abcd"), row(50, "e", "strong"))
        self.words("words", runs, row(0, "ab"), row(17, "cd", "strong"), row(50, "e", "strong"))
        self.words("words", runs, row(0, "ab"), row(12, "cd", "strong"), row(50, "e", "strong"))

    def test_rows_of_several_pieces(self):
        # What is set in one row may come from several texts of one word.
        self.words(None, ["ab", "cd"], row(0, "abcd"))
        self.words(None, ["ab cd"], row(0, "a"), row(6, "b"), row(30, "c"), row(40, "d"))

    def test_rows_have_characters_of_one_word(self):
        self.words("words", ["c d"], row(0, "cd"))
        self.words("words", ["cd e"], row(0, "c"), row(10, "de"))
        self.words(None, ["cd e"], row(0, "c"), row(10, "d"), row(40, "e"))

    def test_rooms_between_words(self):
        for x, told in [(11, None), (60, None), (10, "words"), (9, "words"), (1, "words")]:
            self.words(told, ["c d"], row(0, "c"), row(x, "d"))
        # Soft hyphens in rows have no characters, but they are as wide as they are.
        for x, told in [(14, None), (13, "words"), (11, "words")]:
            self.words(told, ["c d"], row(0, "c="), row(x, "d"))

    def test_rows_within_words(self):
        for x, told in [(10, None), (6, None), (9, "words"), (7, "words"), (5, "words"), (11, "words"), (14, "words")]:
            self.words(told, ["ab"], row(0, "a"), row(x, "b"))
        # Only rows of one use have kerns.
        for x, told in [(10, None), (6, "words")]:
            self.words(told, ["a", text("b", "strong")], row(0, "a"), row(x, "b", "strong"))
        for x, told in [(12, None), (11, "words")]:
            self.words(told, [text("a", "strong"), text("b", "strong")], row(0, "a", "strong"), row(x, "b", "strong"))
        for x, told in [(12, None), (8, "words")]:
            self.words(told, [text("a", "strong"), "b"], row(0, "a", "strong"), row(x, "b"))
        for x, told in [(10, None), (9, "words"), (11, "words")]:
            self.words(told, ["ba"], row(0, "b"), row(x, "a"))
        # The glyphs that meet may be soft hyphens.
        for x, told in [(13, None), (10, None), (9, "words")]:
            self.words(told, ["cd"], row(0, "c="), row(x, "d"))
        for x, told in [(10, None), (8, None), (9, "words")]:
            self.words(told, ["cd"], row(0, "c"), row(x, "=d"))

    def test_soft_hyphens_within_lines(self):
        self.words(None, ["cd e"], row(0, "c"), row(3, "="), row(10, "d"), row(25, "=="), row(40, "=e"))
        self.words(None, ["cd e"], row(0, "="), row(0, "c=d"), row(40, "e"))
        self.words("words", ["cd e"], row(0, "cd"), row(40, "e="))
        self.words("words", ["cd e"], row(0, "cd"), row(40, "e"), row(41, "="))
        self.words("words", ["cd e"], row(0, "cd"), row(40, "e"), row(60, "="))

    def lines_end(self, told, runs, first, second, style=STYLE):
        """Look at a paragraph of two lines."""
        self.check(told, [para(*runs)], [line(0, *first), line(3, *second)], style=style)

    def test_lines_that_end_within_words(self):
        self.lines_end(None, ["abcd"], [row(0, "ab"), row(16, "=")], ["cd"])
        self.lines_end(None, ["abcd"], ["ab="], ["cd"])
        self.lines_end(None, ["abcd"], [row(0, "ab"), row(7, "=="), row(50, "=")], ["cd"])
        self.lines_end("words", ["abcd"], ["ab"], ["cd"])
        self.lines_end("words", ["abcd"], ["a="], ["bcd"])
        self.lines_end("words", ["abcd"], ["abc="], ["d"])
        self.lines_end("words", ["abcd"], ["a"], ["bcd"])
        # The row with the soft hyphen is not the last one.
        self.lines_end("words", ["abcd"], [row(0, "="), row(0, "ab")], ["cd"])
        self.lines_end("words", ["abcd"], [row(0, "ab"), row(0, "=")][::-1], ["cd"])
        self.lines_end("words", ["ab cd"], ["ab="], ["cd"])
        self.lines_end("words", ["ab cd"], ["ab"], ["cd="])
        self.lines_end(None, ["ab cd"], ["ab"], ["cd"])
        self.lines_end(None, ["ab", ("tie",), "cd"], ["ab"], ["cd"])
        self.lines_end(None, ["xx abcd"], [row(0, "xx"), row(40, "ab=")], ["cd"])
        self.lines_end("words", ["xx abcd"], [row(0, "xx"), row(40, "a=")], ["bcd"])

    def test_rows_with_one_left_edge_stand_as_they_come(self):
        rows = [(0, 7, "text", ["a", "b"]), (0, 7, "text", [SOFT])]
        behind = [(0, 19, "text", ["c", "d"])]
        self.assertIsNone(self.told([para("abcd")], [("page", 1, rows + behind)]))
        self.assertEqual(self.told([para("abcd")], [("page", 1, rows[::-1] + behind)]), "words")

    def test_lines_that_end_behind_hyphens(self):
        self.lines_end(None, ["ab-cd"], ["ab-"], ["cd"])
        self.lines_end("words", ["ab-cd"], ["ab-="], ["cd"])
        self.lines_end("words", ["ab-cd"], ["ab="], ["-cd"])
        self.lines_end("words", ["ab-cd"], ["ab"], ["-cd"])
        self.lines_end(None, ["ab--cd"], ["ab-"], ["-cd"])
        self.lines_end(None, ["ab--cd"], ["ab--"], ["cd"])
        self.lines_end(None, ["-cd"], ["-"], ["cd"])
        self.lines_end("words", ["cd- e"], ["cd-="], ["e"])

    def test_pieces(self):
        # A piece is not parted ahead of its first character, whatever stands before.
        self.lines_end("words", ["ab", "cd"], ["ab="], ["cd"])
        self.lines_end("words", ["a-", "cd"], ["a-"], ["cd"])
        self.lines_end("words", ["ab", "cd-"], ["ab="], ["cd-"])
        self.lines_end("words", ["ab", text("cd", "strong")], ["ab="], [row(0, "cd", "strong")])
        self.lines_end(None, ["a", "bcd"], ["ab="], ["cd"])
        self.lines_end(None, ["abc", "d"], ["ab="], ["cd"])
        self.lines_end(None, [text("abcd", "strong")], [row(0, "ab=", "strong")], [row(0, "cd", "strong")])

    def test_patterns_see_pieces_alone(self):
        its_patterns = its_style(hyphens=("hyphens", [".ab1", "1yz."], ["uv-w"], 1, 1))
        self.lines_end(None, ["abcd"], ["ab="], ["cd"], style=its_patterns)
        self.lines_end(None, ["x", "abcd"], ["xab="], ["cd"], style=its_patterns)
        self.lines_end("words", ["xabcd"], ["xab="], ["cd"], style=its_patterns)
        self.lines_end(None, ["uvw"], ["uv="], ["w"], style=its_patterns)
        self.lines_end("words", ["uv", "w"], ["uv="], ["w"], style=its_patterns)
        self.lines_end(None, ["wyz", "x"], ["w="], ["yzx"], style=its_patterns)

    def test_ligatures_are_not_looked_at(self):
        self.lines_end(None, ["abcd"], ["ab="], ["cd"])
        self.words(None, ["abcd"], row(0, "a[bcd]"))
        self.words(None, ["abcd"], row(0, "a[bc]d"))
        # The line ends within what could be a ligature.
        self.lines_end(None, ["affa"], ["af="], ["fa"])

    def test_marks_of_notes(self):
        document = [para("ab", note("x"), " cd")]
        notes = line(6, row(0, "1", "note"), row(16, "x", "note"))
        for rows in [[row(0, "ab"), row(16, "1", "note"), row(50, "cd")]]:
            self.check(None, document, [line(0, *rows), notes])
        for rows in [[row(0, "ab"), row(17, "1", "note"), row(50, "cd")], [row(0, "ab"), row(50, "cd")],
                     [row(0, "ab"), row(16, "2", "note"), row(50, "cd")], [row(0, "ab"), row(16, "1"), row(50, "cd")],
                     [row(0, "ab"), row(30, "cd"), row(50, "1", "note")]]:
            self.check("words", document, [line(0, *rows), notes])
        self.check("words", [para("ab", note("x"), "cd")], [line(0, row(0, "ab"), row(16, "1", "note")), line(3, "cd"), notes])

    def test_marks_of_notes_are_not_parted(self):
        document = [para(*[run for _ in range(10) for run in (note("x"), " ")])]
        first = [row(12 * at, str(at + 1), "note") for at in range(8)]
        both = [line(0, *first[:7]), line(6, first[7], row(100 - 6, "9", "note"))]
        notes = [line(6 if at == 0 else 0, row(0, str(at + 1), "note"), row(30, "x", "note")) for at in range(10)]
        ends = line(6, row(0, "10", "note"))
        self.check(None, document, [*both, ends, *notes], style=its_style(limits={**STYLE[10], "notes": 60}))
        split = [line(0, *first[:7]), line(6, first[7], row(30, "9", "note"), row(80, "1", "note")),
                 line(6, row(0, "0", "note"))]
        self.check("words", document, [*split, *notes])

    def test_sources(self):
        # Heads, items, contents, the index, and references are read as their sources.
        document = [head(1, "ab", "x"), item(1, "see ", ("ref", "x"), ("page", "x")), ("contents",),
                    para("q", ("mark", "ab"), " r"), ("index",)]
        lines = [line(0, row(0, "1", "head1"), row(30, "ab", "head1")), line(7, row(0, "see"), row(40, "11")),
                 line(5, row(0, "1"), row(30, "ab"), row(80, "1")), line(7, row(0, "q"), row(60, "r")),
                 line(7, row(0, "ab"), row(40, "1"))]
        self.check(None, document, lines)
        for at, wrong in [(0, line(0, row(0, "2", "head1"), row(30, "ab", "head1"))), (1, line(7, row(0, "see"), row(40, "12"))),
                          (2, line(5, row(0, "1"), row(30, "ab"), row(80, "2"))), (4, line(7, row(0, "ab"), row(40, "3"))),
                          (0, line(0, row(0, "1", "head1"), row(30, "ab", "head2"))), (0, line(0, row(0, "1"), row(30, "ab")))]:
            self.check("words", document, lines[:at] + [wrong] + lines[at + 1:])

    def test_floats_and_notes_are_parted_too(self):
        document = [floating(5, "abcd"), para("x", note("abcd"))]
        lines = [line(5, row(0, "ab=", "note")), line(6, row(0, "cd", "note")), line(7, row(0, "x"), row(10, "1", "note")),
                 line(6, row(0, "1", "note"), row(16, "ab=", "note")), line(6, row(0, "cd", "note"))]
        self.check(None, document, lines)
        for at, signs in [(0, "ab"), (3, "ab")]:
            wrong = list(lines)
            wrong[at] = line(lines[at][0], *lines[at][1][:-1], row(lines[at][1][-1][0], signs, "note"))
            self.check("words", document, wrong)


# Two columns of 40, with a gap of 20 between them: the first word fits in no less.
TABLE = ("table", [[[text("abz- cd")], [text("e-fg")]]])


class TestRows(AuditCase):
    """What point 18.4 says of rows of tables. The units of the grid are 10; there are gaps of 20."""

    def row(self, told, *lines, document=None, **more):
        self.check(told, document or [TABLE], [line(0 if at == 0 else 3, *rows) for at, rows in enumerate(lines)], **more)

    def test_cells(self):
        self.row(None, [row(0, "abz-"), row(60, "e-fg")], ["cd"])
        self.row(None, [row(0, "abz-"), row(60, "e-")], [row(0, "cd"), row(60, "fg")])
        self.row(None, [row(30, "abz-"), row(80, "e-")], [row(0, "cd"), row(70, "fg")])
        self.row("words", [row(0, "abz-"), row(60, "e-")], [row(0, "cd")])
        self.row("words", [row(0, "abz-"), row(60, "e-fg")])
        self.row("words", [row(60, "abz-")], [row(0, "cd"), row(60, "e-fg")])
        self.row("words", [row(0, "abz-"), row(59, "e-fg")], ["cd"])
        self.row("words", [row(0, "abz-"), row(60, "e-fg")], [row(60, "cd")])

    def test_words_are_parted_behind_hyphens_alone(self):
        document = [("table", [[[text("abcd")], [text("e-fg")]]])]
        self.row("words", ["ab="], ["cd"], document=document)
        self.row("words", [row(0, "ab="), row(60, "e-")], [row(0, "cd"), row(60, "fg")], document=document)
        self.row("words", [row(0, "abcd"), row(60, "e-=")], [row(60, "fg")], document=document)
        self.row("words", [row(0, "abcd"), row(60, "e")], [row(60, "-fg")], document=document)
        self.row(None, [row(0, "abcd"), row(60, "e-")], [row(60, "fg")], document=document)

    def test_no_empty_lines_ahead_of_the_end(self):
        self.row("words", [row(0, "abz-")], [row(0, "cd"), row(60, "e-fg")])
        self.row("words", [row(0, "abz-"), row(60, "e-")], [row(60, "fg")], ["cd"])
        self.row("words", [row(0, "abz-"), row(60, "=")], [row(0, "cd"), row(60, "e-fg")])
        document = [("table", [[[text("aaaa cd ef")], [text("xxxx y")]]])]
        self.row(None, [row(0, "aaaa"), row(60, "xxxx")], [row(0, "cd"), row(60, "y")], ["ef"], document=document)
        self.row("words", [row(0, "aaaa"), row(60, "xxxx")], ["cd"], [row(0, "ef"), row(60, "y")], document=document)

    def test_nothing_stands_behind_the_end_of_a_cell(self):
        self.row("words", [row(0, "abz-"), row(60, "e-fg")], [row(0, "cd"), row(60, "z")])
        self.row("words", [row(0, "abz-"), row(60, "e-fg")], [row(0, "cd"), row(60, "=")])
        self.row("words", [row(0, "abz-"), row(60, "e-fg")], [row(0, "cd"), row(30, "z")])

    def test_the_lines_end_when_all_cells_have_ended(self):
        document = [("table", [[[text("a")], [text("b")]], [[text("c")], [text("d")]]]), para("e")]
        lines = [line(0, row(0, "a"), row(60, "b")), line(5, row(0, "c"), row(60, "d")), line(7, "e")]
        self.check(None, document, lines)
        self.check("words", document, [line(0, row(0, "a"), row(60, "b")), line(5, "c"), line(7, "e")])
        self.check("words", document, [line(0, row(0, "a"), row(60, "b")), line(5, row(0, "c"), row(60, "d"), row(80, "e"))])

    def test_empty_cells(self):
        document = [("table", [[[], [text("b")]], [[text("c")], [("mark", "m"), ("tie",)]]])]
        self.row(None, [row(60, "b")], document=document[:0] + [("table", document[0][1][:1])])
        self.check(None, document, [line(0, row(60, "b")), line(5, "c")])
        self.check("words", document, [line(0, row(60, "b")), line(5, "c"), line(3, row(60, "x"))])

    def test_notes_of_cells(self):
        document = [para(note("v")), ("table", [[[text("a"), note("x")], [text("b"), note("y")]]])]
        lines = [line(0, row(0, "1", "note")), line(10, row(0, "a"), row(10, "2", "note"), row(60, "b"), row(70, "3", "note"))]
        notes = [line(0, row(0, str(at + 1), "note"), row(16, "vxy"[at], "note")) for at in range(3)]
        self.check(None, document, [*lines, line(6, *notes[0][1]), *notes[1:]])
        self.check("words", document, [*lines, line(6, *notes[0][1]), *notes[:0:-1]])
        self.check("words", document, [*lines, line(6, *notes[0][1]), notes[1]])

    def test_notes_of_cells_with_several_notes(self):
        document = [("table", [[[text("a"), note("x"), note("y")], [text("b")], [text("c"), note("z")]]])]
        rows = [row(0, "a"), row(10, "1", "note"), row(16, "2", "note")]
        style = its_style(measure=130)
        widths = table_widths(style, document[0][1])
        edges = [widths[0] + 20, widths[0] + widths[1] + 40]
        rows += [row(edges[0], "b"), row(edges[1], "c"), row(edges[1] + 10, "3", "note")]
        notes = [line(0, row(0, str(at + 1), "note"), row(16, "xyz"[at], "note")) for at in range(3)]
        self.check(None, document, [line(0, *rows), line(6, *notes[0][1]), *notes[1:]], style=style)

    def test_rules_for_words_hold_in_cells(self):
        document = [("table", [[[text("abzz")], [text("c d")]]])]
        for at, told in [(6, None), (10, None), (7, "words")]:
            self.row(told, [row(0, "a"), row(at, "bzz"), row(60, "c"), row(71, "d")], document=document)
        self.row("words", [row(0, "abzz"), row(60, "c"), row(70, "d")], document=document)
        self.row("words", [row(0, "abzz"), row(60, "cd")], document=document)
        # Rows of two cells are never rows of one word, and may stand one over the other.
        for at in (24, 44):
            self.row(None, [row(at, "abzz"), row(60, "c"), row(71, "d")], document=document)


if __name__ == "__main__":
    unittest.main()

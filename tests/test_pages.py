"""Stacks, pages and the page language: points 12.1 to 12.4."""

import random
import re
import unittest

from galleypapers.errors import GalleyError, TextError
from galleypapers.fonts import SOFT
from galleypapers.pages import placed, read_pages, write_pages
from tests.helper import call, fault

SIGNS = [chr(code) for code in range(33, 127) if code != 37]
STACK = [("row", 7, 2, [(0, "text", ["a"]), (9, "text", ["ff", SOFT])]), ("gap", 3, 1, 1),
         ("row", 6, 0, [(0, "text", ["["])])]
# How the lines of pages and of rows are written, put down as regular expressions.
COUNT = "(0|[1-9][0-9]{0,11})"
NUMBER = "(0|-?[1-9][0-9]{0,11})"
SIGN = r"(?:[!-$&-Z^-~]|\\[\[\]\\])"
GLYPH = rf"(?:{SIGN}|\[{SIGN}{{2,4}}\]|\[-\\n\])"
PAGE = re.compile(f"page {COUNT} {COUNT}")
ROW = re.compile(f"{NUMBER} {NUMBER} ([a-z][a-z0-9]{{0,15}}) ({GLYPH}+)")


def slow_glyphs(word):
    """The glyphs of a word of the page language."""
    glyphs = []
    for glyph in re.findall(GLYPH, word):
        inner = glyph[1:-1] if glyph[0] == "[" else glyph
        glyphs.append(re.sub(r"\\(.)", lambda sign: "\n" if sign[1] == "n" else sign[1], inner))
    return glyphs


def slow_read(text):
    """The pages of a text, or the number of the line that is wrong."""
    pages, missing = [], 0
    lines = text.split("\n")
    for number, line in enumerate(lines[:-1], 1):
        told = (ROW if missing else PAGE).fullmatch(line)
        if told is None:
            return number
        if missing:
            pages[-1][2].append((int(told[1]), int(told[2]), told[3], slow_glyphs(told[4])))
            missing -= 1
        else:
            pages.append(("page", int(told[1]), []))
            missing = int(told[2])
    return len(lines) if missing or lines[-1] else pages


def some_glyph(chance):
    many = chance.choice([1, 1, 1, 2, 3, 4])
    if chance.random() < 0.1:
        return SOFT
    return "".join(chance.choice(chance.choice([SIGNS, ["[", "]", "\\", "n", "-"]])) for _ in range(many))


def some_pages(chance):
    pages = []
    for _ in range(chance.randint(0, 3)):
        rows = []
        for _ in range(chance.randint(0, 3)):
            x, y = [chance.choice([0, 7, -7, 10, 10 ** 12 - 1, 1 - 10 ** 12]) for _ in range(2)]
            use = chance.choice(["text", "a", "b2", "abcdefghijklmnop", "page"])
            rows.append((x, y, use, [some_glyph(chance) for _ in range(chance.randint(1, 4))]))
        pages.append(("page", chance.choice([0, 1, 2, 12, 10 ** 12 - 1]), rows))
    return pages


class TestPlaced(unittest.TestCase):
    """Point 12.1."""

    def test_example(self):
        rows = call(self, placed, STACK, 20)
        self.assertEqual(rows, [(0, 7, 'text', ['a']), (9, 7, 'text', ['ff', '-\n']), (0, 20, 'text', ['['])])
        self.assertEqual([type(rows), type(rows[0])], [list, tuple])

    def last(self, stack, height):
        return placed(stack, height)[-1][1]

    def test_heights(self):
        # The stack is 18 high; its gap can be 1 lower, and all the higher.
        for height, baseline in [(0, 17), (16, 17), (17, 17), (18, 18), (19, 19), (99, 99)]:
            self.assertEqual(self.last(STACK, height), baseline)
        self.assertEqual(self.last([STACK[0], ("gap", 3, 0, 0), STACK[2]], 99), 18)
        self.assertEqual(self.last([STACK[0], ("gap", 3, 0, 0), STACK[2]], 9), 18)

    def test_shares(self):
        one = ("row", 4, 1, [(3, "text", ["a"])])
        stack = [("gap", 5, 1, 1), one, ("gap", 5, 0, 3), ("gap", 2, 1, 0), one, one, ("gap", 1, 3, 0)]
        for height, told in [(28, [9, 21, 26]), (29, [9, 21, 26]), (33, [10, 23, 28]), (27, [9, 20, 25]), (26, [9, 19, 24]),
                             (24, [8, 17, 22]), (0, [8, 17, 22])]:
            self.assertEqual([row[1] for row in call(self, placed, stack, height)], told)

    def test_depth_of_the_last_row_counts(self):
        stack = [("row", 4, 6, [(0, "text", ["a"])]), ("gap", 0, 1, 0), ("row", 4, 6, [(0, "text", ["a"])])]
        self.assertEqual(self.last(stack, 20), 14)
        self.assertEqual(self.last(stack, 25), 19)

    def test_rows(self):
        rows = [(5, "text", []), (-3, "note", ["b", SOFT]), (2, "strong", ["a"])]
        self.assertEqual(call(self, placed, [("row", 4, 6, []), ("row", 0, 0, rows)], 10),
                         [(5, 10, "text", []), (-3, 10, "note", ["b", SOFT]), (2, 10, "strong", ["a"])])
        self.assertEqual(call(self, placed, [], 10), [])
        self.assertEqual(placed([("gap", 3, 1, 1)], 10), [])


class TestWriting(unittest.TestCase):
    """Points 12.2 and 12.3."""

    def test_example(self):
        rows = placed(STACK, 20)
        text = call(self, write_pages, [("page", 3, rows)])
        self.assertEqual(text, 'page 3 3\n0 7 text a\n9 7 text [ff][-\\n]\n0 20 text \\[\n')
        self.assertEqual(call(self, read_pages, text), [("page", 3, rows)])

    def test_pages(self):
        self.assertEqual(write_pages([]), "")
        self.assertEqual(write_pages([("page", 0, [])]), "page 0 0\n")
        self.assertEqual(write_pages([("page", 12, []), ("page", 1, [(0, -5, "a1", ["x"])]), ("page", 7, [])]),
                         "page 12 0\npage 1 1\n0 -5 a1 x\npage 7 0\n")
        self.assertEqual(write_pages([("page", 10 ** 12 - 1, [(1 - 10 ** 12, 10 ** 12 - 1, "note", ["x"])])]),
                         "page 999999999999 1\n-999999999999 999999999999 note x\n")

    def test_glyphs(self):
        for glyphs, told in [
                (["a", "b"], "ab"), (["ab"], "[ab]"), (["a", "bc", "d"], "a[bc]d"), ([SOFT], "[-\\n]"), (["-", "n"], "-n"),
                (["-n"], "[-n]"), (["\\"], "\\\\"), (["["], "\\["), (["]"], "\\]"), (["[]"], "[\\[\\]]"),
                (["\\n"], "[\\\\n]"), (["-\\n"], "[-\\\\n]"), (["a]", "[b"], "[a\\]][\\[b]"), (["ffi", SOFT], "[ffi][-\\n]"),
                (["abcd"], "[abcd]"), (["\\", "n"], "\\\\n"), (["(", ")"], "()")]:
            with self.subTest(glyphs):
                pages = [("page", 1, [(0, 0, "text", glyphs)])]
                self.assertEqual(write_pages(pages), f"page 1 1\n0 0 text {told}\n")
                self.assertEqual(read_pages(write_pages(pages)), pages)

    def test_what_is_written_comes_back(self):
        chance = random.Random(123)
        for _ in range(300):
            pages = some_pages(chance)
            text = call(self, write_pages, pages)
            self.assertEqual(call(self, read_pages, text), pages)
            self.assertEqual(slow_read(text), pages)
        for sign in SIGNS:
            pages = [("page", 1, [(0, 0, "text", [sign, sign + "x", "x" + sign, sign])])]
            self.assertEqual(read_pages(write_pages(pages)), pages)


class TestReading(unittest.TestCase):
    """Point 12.4."""

    def wrong(self, text, line):
        self.assertEqual(fault(self, TextError, read_pages, text).line, line, text)
        self.assertEqual(slow_read(text), line)

    def test_kinds_of_values(self):
        pages = read_pages("page 1 1\n0 0 text a\n")
        self.assertEqual(pages, [("page", 1, [(0, 0, "text", ["a"])])])
        self.assertEqual([type(pages), type(pages[0]), type(pages[0][2]), type(pages[0][2][0])], [list, tuple, list, tuple])
        self.assertEqual(read_pages(""), [])
        self.assertTrue(issubclass(TextError, GalleyError))

    def test_lines_of_pages(self):
        self.assertEqual(read_pages("page 0 0\npage 999999999999 0\n"), [("page", 0, []), ("page", 999999999999, [])])
        for line in ["", " ", "page", "page 1", "page 1 ", "page 1 0 ", " page 1 0", "page  1 0", "page 1  0", "Page 1 0",
                     "pages 1 0", "page1 0", "page 01 0", "page 1 00", "page 00 0", "page -1 0", "page 1 -1", "page -0 0",
                     "page 1 -0", "page +1 0", "page 1.0 0", "page 1 a", "page a 0", "page 1000000000000 0",
                     "page 1 1000000000000", "page 1 0 0", "page 1_0 0", "0 0 text a", "\\n", "page 1 0\\n", "page - 0"]:
            with self.subTest(line):
                self.wrong(line + "\n", 1)
                self.wrong("page 1 0\n" + line + "\n", 2)
                self.wrong("page 1 1\n0 0 text a\n" + line + "\npage 1 0\n", 3)

    def test_lines_of_rows(self):
        for line in ["", "page 1 0", "0 0 text", "0 0 text ", "0 0 text  a", "0 0 text a ", " 0 0 text a", "0 0 text a a",
                     "0  0 text a", "0 text a", "0 0 a", "0 0 0 text a", "00 0 text a", "0 00 text a", "-0 0 text a",
                     "0 -0 text a", "01 0 text a", "0 -01 text a", "+1 0 text a", "1000000000000 0 text a",
                     "0 -1000000000000 text a", "0 0000000000001 text a", "1.5 0 text a", "- 0 text a", "--1 0 text a",
                     "0 x text a", "0 0 Text a", "0 0 2text a", "0 0  a", "0 0 te-xt a", "0 0 abcdefghijklmnopq a", "0 0 tExt a",
                     "0 0 text_ a", "1_0 0 text a"]:
            with self.subTest(line):
                self.wrong("page 1 1\n" + line + "\n", 2)
                self.wrong("page 1 3\n0 0 text a\n" + line + "\n0 0 text a\n", 3)
        self.assertEqual(read_pages("page 1 1\n-999999999999 -1 abcdefghijklmnop a\n")[0][2],
                         [(-999999999999, -1, "abcdefghijklmnop", ["a"])])

    def test_glyphs(self):
        for word in ["[", "]", "\\", "[]", "[a]", "[-]", "[abcde]", "[ab", "ab]", "a[b", "a]b", "[[ab]", "[ab]]", "[[ab]]",
                     "[a[b]]", "\\n", "a\\n", "[\\n]", "[a\\n]", "[-\\n-]", "[--\\n]", "[\\n-]", "\\a", "[\\ab]", "\\-", "a\\",
                     "[ab\\]", "[ab\\", "[\\[]", "[\\\\]", "[-\\n", "-\\n]", "[ab][", "[]a", "a[]", "[-\\n\\n]", "\\ ", "~\\",
                     "[\\\\\\\\\\\\\\\\\\\\]", "[a][b]", "\\[ab]", "[ab\\]c"]:
            with self.subTest(word):
                self.wrong(f"page 1 1\n0 0 text {word}\n", 2)
        for word, glyphs in [("\\[", ["["]), ("[\\[\\]]", ["[]"]), ("[\\\\n]", ["\\n"]), ("[-\\n]a", [SOFT, "a"]),
                             ("[\\\\\\\\\\\\\\\\]", ["\\\\\\\\"]), ("~!", ["~", "!"]), ("\\\\n", ["\\", "n"])]:
            self.assertEqual(read_pages(f"page 1 1\n0 0 text {word}\n")[0][2][0][3], glyphs)

    def test_newlines_and_missing_rows(self):
        for text, line in [
                ("\n", 1), ("page 1 0", 1), ("page 1 1", 1), ("page 1 1\n", 2), ("page 1 2\n0 0 text a\n", 3),
                ("page 1 1\n0 0 text a", 2), ("page 1 1\n0 0 text a\n\n", 3), ("page 1 0\n\n", 2), ("page 1 0\npage 2 0", 2),
                ("page 1 999999999999\n0 0 text a\n", 3), ("page 1 2\n0 0 text a\n0 0 text", 3), ("x", 1), ("page 1 0\nx", 2),
                ("x\nx", 1), ("page 1 2\nx\n", 2), ("page 1 1\npage 2 0\n", 2), ("page 1 0\n0 0 text a\n", 2)]:
            with self.subTest(text):
                self.wrong(text, line)

    def test_texts_with_one_change(self):
        chance = random.Random(124)
        rights = 0
        for _ in range(4000):
            text = write_pages(some_pages(chance)) or "page 1 0\n"
            at = chance.randrange(len(text) + 1)
            sign = chance.choice([*"\n\n  0011-page[]\\n", *chance.sample(SIGNS, 3)])
            kind = chance.choice(["put", "set", "drop"])
            text = text[:at] + (sign if kind != "drop" else "") + text[at + (kind != "put"):]
            told = slow_read(text)
            if isinstance(told, int):
                self.assertEqual(fault(self, TextError, read_pages, text).line, told, text)
            else:
                rights += 1
                self.assertEqual(call(self, read_pages, text), told, text)
                self.assertEqual(write_pages(told), text)
        self.assertTrue(500 < rights < 3500, rights)


if __name__ == "__main__":
    unittest.main()

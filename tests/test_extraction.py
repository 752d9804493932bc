"""Reading the words of pages: points 13.1 to 13.3."""

import random
import unittest

from galleypapers.extraction import heads, words
from galleypapers.fonts import SOFT, text_of, width
from tests.helper import call

SIZES = {"a": (5, 4, 0), "b": (5, 7, 0), "c": (3, 7, 0), "ff": (8, 7, 0), "f": (4, 7, 0), SOFT: (3, 3, 0)}
FONT = ("font", "small", SIZES, {("a", "b"): -2})
WIDE = ("font", "wide", {glyph: (sizes[0] + 10, 1, 1) for glyph, sizes in SIZES.items()}, {})
FONTS = {"text": FONT, "strong": FONT, "note": WIDE}
ALL = ["text", "strong", "note"]


def row(x, glyphs, y=9, use="text"):
    """A row; of a text each character is a glyph, and a ! stands for SOFT."""
    return (x, y, use, [SOFT if glyph == "!" else glyph for glyph in glyphs])


def slow_lines(pages, uses):
    """All lines of pages, with the numbers of the pages."""
    lines = []
    for _, number, rows in pages:
        kept = [(y, x, at) for at, (x, y, use, _) in enumerate(rows) if use in uses]
        for baseline in sorted({y for y, _, _ in kept}):
            lines.append((number, [rows[at] for y, x, at in sorted(kept) if y == baseline]))
    return lines


def slow_words(line, fonts):
    parts = [[line[0]]]
    for left, right in zip(line, line[1:]):
        if right[0] <= left[0] + width(fonts[left[2]], left[3]):
            parts[-1].append(right)
        else:
            parts.append([right])
    return ["".join(text_of(part[3]) for part in word) for word in parts]


class TestWords(unittest.TestCase):
    def words(self, *pages, uses=ALL):
        """The words of pages, each a list of rows."""
        whole = [("page", at + 1, list(rows)) for at, rows in enumerate(pages)]
        return call(self, words, whole, FONTS, list(uses))

    def test_example(self):
        font = ("font", "small", {"a": (5, 4, 0), "b": (5, 7, 0), SOFT: (3, 3, 0)}, {})
        rows = [(0, 9, "text", ["a"]), (5, 9, "strong", ["b"]), (14, 9, "text", ["a", SOFT]), (0, 18, "text", ["b", "b"])]
        told = call(self, words, [("page", 1, rows)], {"text": font, "strong": font}, ["text", "strong"])
        self.assertEqual(told, ['ab', 'abb'])

    def test_nothing(self):
        self.assertEqual(self.words(), [])
        self.assertEqual(self.words([], []), [])
        self.assertEqual(self.words([row(0, "a")], uses=[]), [])
        self.assertEqual(self.words([row(0, "a")], uses=["note"]), [])

    def test_lines(self):
        """Point 13.1."""
        rows = [row(20, "b", 18), row(0, "c", 9), row(0, "a", 18), row(9, "a", 9), row(0, "b", -3)]
        self.assertEqual(self.words(rows), ["b", "c", "a", "a", "b"])
        # Rows with one left edge stay in their order, and all of them are at most at the right edge of the row before.
        self.assertEqual(self.words([row(4, "b"), row(4, "a"), row(0, "a"), row(4, "c")]), ["abac"])
        self.assertEqual(self.words([row(0, "a", 10), row(5, "b", 9)]), ["b", "a"])
        self.assertEqual(self.words([row(0, "a", 10)], [row(0, "b", 9)]), ["a", "b"])

    def test_uses(self):
        rows = [row(0, "a"), row(5, "b", 9, "strong"), row(10, "c"), row(0, "b", 18, "note")]
        self.assertEqual(self.words(rows), ["abc", "b"])
        self.assertEqual(self.words(rows, uses=["text"]), ["a", "c"])
        self.assertEqual(self.words(rows, uses=["note", "strong"]), ["b", "b"])
        self.assertEqual(self.words(rows, uses=["note", "text", "note"]), ["a", "c", "b"])

    def test_where_words_begin(self):
        """Point 13.2."""
        for x, told in [(-6, ["b", "a"]), (-5, ["ba"]), (0, ["ab"]), (4, ["ab"]), (5, ["ab"]), (6, ["a", "b"]), (99, ["a", "b"])]:
            self.assertEqual(self.words([row(0, "a"), row(x, "b")]), told)
        # Kerns count, and so does the font of the use.
        self.assertEqual(self.words([row(0, "ab"), row(8, "c")]), ["abc"])
        self.assertEqual(self.words([row(0, "ab"), row(9, "c")]), ["ab", "c"])
        self.assertEqual(self.words([row(0, "a", 9, "note"), row(15, "c")]), ["ac"])
        self.assertEqual(self.words([row(0, "a", 9, "note"), row(16, "c")]), ["a", "c"])
        self.assertEqual(self.words([row(0, "a!"), row(8, "b")]), ["ab"])

    def test_the_row_before_tells(self):
        # The first row goes further to the right than the second one.
        rows = [row(0, "aaaa"), row(1, "c"), row(5, "b")]
        self.assertEqual(self.words(rows), ["aaaac", "b"])

    def test_texts(self):
        self.assertEqual(self.words([row(0, ["ff", "a", "!"]), row(30, "b")]), ["ffa", "b"])
        self.assertEqual(self.words([row(0, "!"), row(9, "a"), row(40, "!!")]), ["", "a", ""])
        self.assertEqual(self.words([row(0, "!"), row(3, "a")]), ["a"])

    def test_open_lines(self):
        """Point 13.3."""
        self.assertEqual(self.words([row(0, "a"), row(9, "b!"), row(0, "c", 18), row(9, "a", 18)]), ["a", "bc", "a"])
        self.assertEqual(self.words([row(0, "a!"), row(0, "b!", 18), row(0, "c!", 27)]), ["abc"])
        self.assertEqual(self.words([row(0, "b!")], [], [row(0, "c", 2)]), ["bc"])
        # SOFT elsewhere opens nothing.
        self.assertEqual(self.words([row(0, "b!a"), row(0, "c", 18)]), ["ba", "c"])
        self.assertEqual(self.words([row(0, "b!"), row(9, "a"), row(0, "c", 18)]), ["b", "a", "c"])
        self.assertEqual(self.words([row(0, "a"), row(9, "!"), row(0, "c", 18)]), ["a", "c"])
        self.assertEqual(self.words([row(0, "!"), row(0, "!", 18)], [row(0, "!")]), [""])

    def test_open_lines_of_these_uses(self):
        rows = [row(0, "a!"), row(0, "b", 12, "note"), row(0, "c", 18)]
        self.assertEqual(self.words(rows), ["ab", "c"])
        self.assertEqual(self.words(rows, uses=["text"]), ["ac"])
        self.assertEqual(self.words([row(0, "a!"), row(40, "b", 9, "note"), row(0, "c", 18)]), ["a", "b", "c"])
        self.assertEqual(self.words([row(0, "a!"), row(40, "b", 9, "note"), row(0, "c", 18)], uses=["text"]), ["ac"])

    def test_the_last_row_is_that_with_the_greatest_edge(self):
        self.assertEqual(self.words([row(9, "a!"), row(0, "b"), row(0, "c", 18)]), ["b", "ac"])
        self.assertEqual(self.words([row(9, "a"), row(0, "b!"), row(0, "c", 18)]), ["b", "a", "c"])


class TestHeads(unittest.TestCase):
    def test_lines(self):
        pages = [("page", 4, [row(0, "a"), row(9, "b", 9, "note"), row(0, "c", 2, "strong")]), ("page", 9, []),
                 ("page", 0, [row(0, "b!", 9, "note"), row(0, "c", 18)])]
        told = call(self, heads, pages, FONTS, ALL)
        self.assertEqual(told, [(4, "strong", "c"), (4, "text", "a b"), (0, "note", "b"), (0, "text", "c")])
        self.assertEqual([type(told), type(told[0])], [list, tuple])
        self.assertEqual(heads(pages, FONTS, ["note"]), [(4, "note", "b"), (0, "note", "b")])
        self.assertEqual(heads(pages, FONTS, []), [])
        self.assertEqual(heads([], FONTS, ALL), [])

    def test_words_of_lines(self):
        pages = [("page", 1, [row(0, "!"), row(9, "a"), row(14, "b"), row(40, "!"), row(0, "a", 10)])]
        self.assertEqual(heads(pages, FONTS, ["text"]), [(1, "text", " ab "), (1, "text", "a")])


class TestRandomPages(unittest.TestCase):
    def test_random_pages(self):
        chance = random.Random(133)
        for _ in range(800):
            pages = []
            for number in range(chance.randint(0, 3)):
                rows = [row(chance.randint(0, 24), ["".join(chance.choice(["a", "b", "c", "ff", "!"]))
                                                    for _ in range(chance.randint(1, 3))],
                            chance.choice([9, 18]), chance.choice(ALL)) for _ in range(chance.randint(0, 7))]
                pages.append(("page", number, rows))
            uses = chance.sample(ALL, chance.randint(1, 3))
            found, goes_on = [], False
            lines = slow_lines(pages, uses)
            for _, line in lines:
                its_words = slow_words(line, FONTS)
                if goes_on:
                    found[-1] += its_words[0]
                    del its_words[0]
                found += its_words
                goes_on = line[-1][3][-1] == SOFT
            self.assertEqual(call(self, words, pages, FONTS, uses), found)
            self.assertEqual(call(self, heads, pages, FONTS, uses), [
                (number, line[0][2], " ".join(slow_words(line, FONTS))) for number, line in lines])


if __name__ == "__main__":
    unittest.main()

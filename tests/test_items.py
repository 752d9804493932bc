"""The items of paragraphs: points 6.1 to 6.5 and 0.2."""

import random
import unittest

from galleypapers.errors import GlyphError
from galleypapers.fonts import SOFT, extents, positions, shape, text_of, width
from galleypapers.hyphens import points
from galleypapers.items import items_of
from galleypapers.markup import read
from galleypapers.styles import default_style
from tests.helper import call, fault
from tests.test_styles import style

SIZES = {"a": (5, 4, 1), "b": (6, 7, 0), "c": (4, 4, 0), "-": (3, 2, 0), "f": (3, 7, 0), "ff": (6, 7, 0), "1": (5, 6, 0),
         "2": (5, 6, 0), SOFT: (4, 2, 0)}
KERNS = {("a", "b"): -2, ("-", "a"): -1, ("b", "-"): -1, ("a", SOFT): -3}
TEXT = ("font", "plain", SIZES, KERNS)
STRONG = ("font", "bold", {sign: (wide + 1, height, depth + 2) for sign, (wide, height, depth) in SIZES.items()}, {})
NOTE = ("font", "tiny", {"1": (2, 3, 0), "2": (2, 3, 1), "3": (2, 3, 0), "4": (2, 3, 0), "5": (2, 3, 0), "a": (2, 2, 0),
                         "b": (2, 3, 0), SOFT: (1, 1, 0)}, {})
PATTERNS = ("hyphens", ["a1b", "c1c", "f1f"], [], 1, 1)
SPACE = (9, 4, 2)
STYLE = style(fonts={"text": TEXT, "strong": STRONG, "note": NOTE, "head1": STRONG, "head2": STRONG}, space=SPACE,
              hyphens=PATTERNS, penalties={"hyphen": 77, "line": 1, "double": 2})
GLUE = ("glue", *SPACE)
NEVER = ("penalty", 0, 10000, False, [])
END = [NEVER, ("glue", 0, 10000000, 0), ("penalty", 0, -10000, False, [])]
TIE = ("tie",)


def text(signs, use="text"):
    return ("text", use, signs)


def box(signs, use="text", notes=(), font=TEXT):
    """The box of a part that is set for itself, without kerns."""
    glyphs = shape(font, signs)
    return ("box", width(font, glyphs), *extents(font, glyphs), [(0, use, glyphs)], notes)


def start(indent=0):
    return ("box", indent, 0, 0, [], ())


def mark(number):
    return ("box", 0, 0, 0, [], (-number,))


class TestItems(unittest.TestCase):
    def items(self, runs, *expected, use="", indent=0, first_note=1, notes=()):
        told = call(self, items_of, STYLE, list(runs), use, indent, first_note)
        self.assertEqual(told, ([start(indent), *expected, *END], list(notes)))

    def test_kinds_of_values(self):
        told = items_of(STYLE, [text("ab")], "", 0, 1)
        self.assertEqual((type(told), type(told[0]), type(told[1])), (tuple, list, list))
        for item in told[0]:
            self.assertIs(type(item), tuple)
            if item[0] == "box":
                self.assertEqual([type(part) for part in item], [str, int, int, int, list, tuple])
            if item[0] == "penalty":
                self.assertEqual([type(part) for part in item], [str, int, int, bool, list])

    def test_no_words(self):
        for indent in [0, 7]:
            self.items([], indent=indent)
            self.items([text("   ")], indent=indent)
            self.items([TIE, text(" "), TIE], indent=indent)

    def test_words(self):
        self.items([text("c")], box("c"), indent=3)
        self.items([text("c b a")], box("c"), GLUE, box("b"), GLUE, box("a"))
        self.items([text("c   b")], box("c"), GLUE, box("b"))
        self.items([text("  c ")], box("c"))
        self.items([text("c "), text(" "), text(" b")], box("c"), GLUE, box("b"))
        self.items([text("caff")], ("box", 15, 7, 1, [(0, "text", ["c", "a", "ff"])], ()))

    def test_pieces(self):
        # Texts without a space between them are parts of one word; no line ends there.
        self.items([text("c"), text("b", "strong"), text("c")], box("c"), box("b", "strong", (), STRONG), box("c"))
        self.items([text("c"), text("b")], box("c"), box("b"))
        self.items([text("c "), text("b", "strong")], box("c"), GLUE, box("b", "strong", (), STRONG))
        self.items([text("c"), text(" b", "strong")], box("c"), GLUE, box("b", "strong", (), STRONG))
        # Each piece is shaped and parted for itself: there is no kern and no ligature.
        self.items([text("a"), text("b")], box("a"), box("b"))
        self.items([text("f"), text("f")], box("f"), box("f"))
        self.items([text("c-"), text("c")], box("c-"), box("c"))

    def test_uses(self):
        runs = [text("c "), text("b", "strong")]
        for use in ["text", "strong", "head1"]:
            font = STYLE[1][use]
            self.items(runs, box("c", use, (), font), GLUE, box("b", use, (), font), use=use)
        runs = [text("b"), ("note", [text("a", "strong")])]
        for use in ["text", "strong", "note"]:
            self.items(runs, box("b", use, (), STYLE[1][use]), box("1", "note", (1,), NOTE), use=use,
                       notes=[(1, [text("a", "strong")])])

    def test_notes(self):
        first, second = [text("a")], [text("b", "strong"), TIE]
        self.items([text("c"), ("note", first), text(" "), ("note", second)], box("c"), box("11", "note", (11,), NOTE),
                   GLUE, box("12", "note", (12,), NOTE), first_note=11, notes=[(11, first), (12, second)])
        self.items([("note", first), text("c")], box("1", "note", (1,), NOTE), box("c"), notes=[(1, first)])
        self.items([("note", []), ("note", [])], box("1", "note", (1,), NOTE), box("2", "note", (2,), NOTE),
                   notes=[(1, []), (2, [])])

    def test_marks_of_notes_are_not_parted(self):
        fonts = {**STYLE[1], "note": ("font", "tiny", {"1": (2, 3, 0), SOFT: (1, 1, 0)}, {("1", "1"): -1})}
        odd = style(fonts=fonts, hyphens=("hyphens", [], [], 1, 1))
        told, _ = items_of(odd, [("note", [])], "", 0, 111)
        self.assertEqual(told[1:-3], [("box", 4, 3, 0, [(0, "note", ["1", "1", "1"])], (111,))])

    def test_marks_of_the_index(self):
        runs = [("mark", "x"), text("c"), ("mark", "y"), text(" "), ("mark", "x"), text(" b")]
        self.items(runs, mark(1), box("c"), mark(2), GLUE, mark(3), GLUE, box("b"))
        # Marks are counted apart from notes, and have no use for the number of the first note.
        runs = [("mark", "x"), ("note", []), ("mark", "y"), ("note", [])]
        self.items(runs, mark(1), box("11", "note", (11,), NOTE), mark(2), box("12", "note", (12,), NOTE), first_note=11,
                   notes=[(11, []), (12, [])])
        self.items([("mark", "x")], mark(1), use="head1", indent=4)
        self.items([text("c "), ("mark", "x")], box("c"), GLUE, mark(1))

    def test_ties(self):
        self.items([text("c"), TIE, text("b")], box("c"), NEVER, GLUE, box("b"))
        self.items([text("c"), TIE, TIE, text("b")], box("c"), NEVER, GLUE, box("b"))
        self.items([text("c"), TIE, text("  b")], box("c"), NEVER, GLUE, box("b"))
        # Behind a space a tie has no meaning.
        self.items([text("c "), TIE, text("b")], box("c"), GLUE, box("b"))
        self.items([text("c "), TIE, text(" "), TIE, text(" b")], box("c"), GLUE, box("b"))
        self.items([TIE, text("c"), TIE], box("c"))
        self.items([text(" "), TIE, text("c"), TIE, text(" ")], box("c"))
        self.items([text("c"), TIE, ("mark", "x"), TIE, text("b ")], box("c"), NEVER, GLUE, mark(1), NEVER, GLUE,
                   box("b"))
        self.items([text("c"), TIE, text("b c"), TIE, text("a")], box("c"), NEVER, GLUE, box("b"), GLUE, box("c"), NEVER,
                   GLUE, box("a"))

    def test_hyphens(self):
        soft = ("penalty", 4, 77, True, [(0, "text", [SOFT])])
        self.items([text("cc")], box("c"), soft, box("c"))
        self.items([text("ccc")], box("c"), soft, box("c"), soft, box("c"))
        self.items([text("cc cc")], box("c"), soft, box("c"), GLUE, box("c"), soft, box("c"))
        # The sizes are those of the glyphs of each part.
        self.items([text("bc-ca")], box("bc-"), ("penalty", 0, 77, True, []), box("ca"))

    def test_kerns_at_hyphens(self):
        soft = ("penalty", 6, 77, True, [(2, "text", [SOFT])])
        self.items([text("ab")], ("box", 3, 4, 1, [(0, "text", ["a"])], ()), soft, box("b"))
        self.items([text("cabc")], ("box", 7, 4, 1, [(0, "text", ["c", "a"])], ()), soft, box("bc"))
        hyphen = ("penalty", 1, 77, True, [])
        self.items([text("c-a")], ("box", 6, 4, 0, [(0, "text", ["c", "-"])], ()), hyphen, box("a"))
        self.items([text("ab")], ("box", 6, 4, 3, [(0, "strong", ["a"])], ()),
                   ("penalty", 5, 77, True, [(0, "strong", [SOFT])]), ("box", 7, 7, 2, [(0, "strong", ["b"])], ()),
                   use="strong")

    def test_hyphens_in_texts(self):
        none = ("penalty", 0, 77, True, [])
        self.items([text("c-c")], box("c-"), none, box("c"))
        self.items([text("c--c")], box("c-"), none, box("-"), none, box("c"))
        self.items([text("-c")], box("-"), none, box("c"))
        self.items([text("c-")], box("c-"))
        self.items([text("-")], box("-"))
        self.items([text("--")], box("-"), none, box("-"))
        self.items([text("c-1")], box("c-"), none, box("1"))
        self.items([text("c- c")], box("c-"), GLUE, box("c"))

    def test_places_within_ligatures(self):
        # The pattern parts the two letters, but there is no glyph in front of which it could be.
        self.items([text("cff")], box("cff"))
        self.items([text("fff")], box("ff"), ("penalty", 4, 77, True, [(0, "text", [SOFT])]), box("f"))

    def test_least_letters_and_exceptions(self):
        odd = STYLE[:11] + (("hyphens", ["c1c"], ["ca-cc"], 2, 1),)
        soft = ("penalty", 4, 77, True, [(0, "text", [SOFT])])
        self.assertEqual(items_of(odd, [text("ccc cacc")], "", 0, 1)[0][1:-3],
                         [box("cc"), soft, box("c"), GLUE, box("ca"), soft, box("cc")])

    def test_characters_without_a_glyph(self):
        for runs, at in [([text("x")], 0), ([text("cc ax")], 1), ([text("c"), text("x")], 0), ([text("c-cx")], 3),
                         ([text("c\n")], 1), ([text("cB cx")], 1), ([text("c"), ("mark", "x"), text(" ccx")], 2)]:
            with self.subTest(runs):
                self.assertEqual(fault(self, GlyphError, items_of, STYLE, runs, "", 0, 1).at, at)
        # The digits of the mark of a note, but neither its text nor that of a mark of the index.
        self.assertEqual(fault(self, GlyphError, items_of, STYLE, [("note", [])], "", 0, 16).at, 1)
        self.assertEqual(fault(self, GlyphError, items_of, STYLE, [text("c")], "note", 0, 1).at, 0)
        items_of(STYLE, [("note", [text("xyz")]), ("mark", "xyz")], "", 0, 1)

    def test_many(self):
        chance = random.Random(11)
        for _ in range(300):
            runs = []
            for _ in range(chance.randint(0, 5)):
                signs = "".join(chance.choice("aabbccf- ") for _ in range(chance.randint(1, 8)))
                runs.append(chance.choice([text(signs), text(signs), text(signs, "strong"), TIE, ("note", [text(signs)]),
                                           ("mark", signs)]))
            use = chance.choice(["", "", "strong"])
            told, notes = call(self, items_of, STYLE, runs, use, 5, 11)
            expected, expected_notes = slow_items(runs, use, 11)
            self.assertEqual((told, notes), ([start(5), *expected, *END], expected_notes))

    def test_lines_are_as_wide_as_their_glyphs(self):
        # Up to each place at which it can be parted, a word is as wide as its glyphs with the hyphen.
        whole = default_style()
        font = whole[1]["text"]
        for word in ["transition", "under-way-vote-AVAVA", "AWA-VAVA-over-ToTo", "overtaking", "settlement-o-v-o"]:
            items, _ = items_of(whole, [text(word)], "", 0, 1)
            wide, glyphs, cuts = 0, [], 0
            for item in items[1:-3]:
                if item[0] == "box":
                    wide += item[1]
                    glyphs += item[4][0][2]
                else:
                    soft = [glyph for row in item[4] for glyph in row[2]]
                    self.assertEqual(wide + item[1], width(font, glyphs) + width(font, soft))
                    self.assertEqual([row[0] + wide for row in item[4]], [width(font, glyphs)] * len(soft))
                    self.assertEqual(soft, [] if text_of(glyphs).endswith("-") else [SOFT])
                    cuts += 1
            self.assertEqual((wide, glyphs), (width(font, shape(font, word)), shape(font, word)))
            self.assertGreater(cuts, 0)

    def test_marked_texts(self):
        block = read("c*b*^{a} c~^!{x}b")[0]
        self.items(block[1], box("c"), box("b", "strong", (), STRONG), box("1", "note", (1,), NOTE), GLUE, box("c"),
                   NEVER, GLUE, mark(1), box("b"), notes=[(1, [text("a")])])


def slow_items(runs, use, number):
    """The items between the first one and the last three, and the notes: each character for itself."""
    found, notes, marks, gap = [], [], 0, ""
    for run in runs:
        if run[0] == "tie":
            gap = gap or "~"
            continue
        pieces = [run] if run[0] != "text" else []
        if run[0] == "text":
            for at, word in enumerate(run[2].split(" ")):
                pieces += [" "] * (at > 0) + [("text", use or run[1], word)] * (word != "")
        for piece in pieces:
            if piece == " ":
                gap = gap or " "
                continue
            if found and gap:
                found += [NEVER, GLUE] if gap == "~" else [GLUE]
            gap = ""
            if piece[0] == "mark":
                marks += 1
                found.append(mark(marks))
            elif piece[0] == "note":
                notes.append((number, piece[1]))
                found.append(box(str(number), "note", (number,), NOTE))
                number += 1
            else:
                found += slow_piece(piece[1], piece[2])
    return found, notes


def slow_piece(use, word):
    """The boxes and penalties of a piece."""
    font = STYLE[1][use]
    glyphs = shape(font, word)
    edges = positions(font, glyphs)
    found, first = [], 0
    for at in range(1, len(glyphs) + 1):
        ahead = "".join(glyphs[:at])
        hard = ahead.endswith("-")
        if at == len(glyphs) or hard or len(ahead) in points(PATTERNS, word):
            part = glyphs[first:at]
            found.append(("box", edges[at] - edges[first], *extents(font, part), [(0, use, part)], ()))
            first = at
            if at < len(glyphs):
                kern = -font[3].get((glyphs[at - 1], glyphs[at]), 0)
                rows = [] if hard else [(kern, use, [SOFT])]
                found.append(("penalty", kern + (0 if hard else font[2][SOFT][0]), 77, True, rows))
    return found


if __name__ == "__main__":
    unittest.main()

"""Styles: points 5.1 to 5.3 and 0.2."""

from copy import deepcopy
import itertools
import unittest

from galleypapers.breaking import best_breaks
from galleypapers.errors import StyleError
from galleypapers.fonts import SOFT, check_font, shape, width
from galleypapers.hyphens import check_hyphens
from galleypapers.items import items_of
from galleypapers.styles import check_style, default_style, line_costs
from tests.helper import call, fault

PARTS = ["fonts", "measure", "height", "leading", "indent", "space", "tolerance", "penalties", "gaps", "limits",
         "hyphens"]
USES = ["text", "strong", "note", "head1", "head2"]
PENALTIES = ["line", "hyphen", "double", "fitness", "widow", "orphan", "broken", "head", "late"]
GAPS = ["above", "below", "paragraph", "item", "note", "float"]
LIMITS = ["notes", "floats", "keep", "least"]
FONT = ("font", "small", {"a": (5, 4, 1), SOFT: (3, 3, 0)}, {})
MOST = 10000000


def style(**parts):
    """A small style, with some parts that are others."""
    whole = {
        "fonts": {use: FONT for use in USES}, "measure": 100, "height": 200, "leading": 12, "indent": 10,
        "space": (4, 2, 1), "tolerance": 200, "penalties": {name: 5 for name in PENALTIES},
        "gaps": {name: (5, 3, 2) for name in GAPS}, "limits": {name: 3 for name in LIMITS},
        "hyphens": ("hyphens", ["a1b"], ["ta-ble"], 2, 2),
    }
    whole.update(parts)
    return ("style", *[whole[part] for part in PARTS])


WRONG = {
    "fonts": {}, "measure": 0, "height": 0, "leading": 0, "indent": -1, "space": (0, 0, 0), "tolerance": -1,
    "penalties": {}, "gaps": {}, "limits": {}, "hyphens": ("hyphens", [], [], 0, 1),
}


class TestCheck(unittest.TestCase):
    def good(self, **parts):
        self.assertIsNone(call(self, check_style, style(**parts)))

    def bad(self, part, **parts):
        self.assertEqual(fault(self, StyleError, check_style, style(**parts)).part, part)

    def bounds(self, part, low, high, made=lambda number: number, **parts):
        """A part, made of a number, is right from the low to the high one."""
        for number in [low, low + 1, high - 1, high]:
            self.good(**{part: made(number)}, **parts)
        for number in [low - 1, low - 1000, high + 1, high + 1000]:
            self.bad(part, **{part: made(number)}, **parts)

    def test_ordinary(self):
        self.good()

    def test_lengths(self):
        self.bounds("measure", 1, MOST, indent=0)
        self.bounds("height", 1, MOST)
        self.bounds("leading", 1, MOST)

    def test_indent(self):
        self.bounds("indent", 0, 99)
        self.bounds("indent", 0, MOST - 1, measure=MOST)
        self.good(indent=0, measure=1)
        self.bad("indent", indent=1, measure=1)

    def test_space(self):
        self.bounds("space", 2, MOST, lambda number: (number, 2, 1))
        self.bounds("space", 1, MOST, lambda number: (number, 2, 0))
        self.bounds("space", 0, MOST, lambda number: (4, number, 1))
        self.bounds("space", 0, 3, lambda number: (4, 2, number))
        self.bounds("space", 0, MOST - 1, lambda number: (MOST, 2, number))
        self.good(space=(1, 0, 0))
        self.bad("space", space=(1, 0, 1))

    def test_tolerance(self):
        self.bounds("tolerance", 0, 10000)

    def test_penalties(self):
        for name in PENALTIES:
            others = {other: 5 for other in PENALTIES}
            self.bounds("penalties", 0, 10000, lambda number: {**others, name: number})
            self.bad("penalties", penalties={other: 5 for other in PENALTIES if other != name})
            self.bad("penalties", penalties={other + ("s" if other == name else ""): 5 for other in PENALTIES})
        self.bad("penalties", penalties={**others, "more": 5})
        self.bad("penalties", penalties={})

    def test_gaps(self):
        for name in GAPS:
            others = {other: (5, 3, 2) for other in GAPS}
            self.bounds("gaps", 2, MOST, lambda number: {**others, name: (number, 3, 2)})
            self.bounds("gaps", 0, MOST, lambda number: {**others, name: (number, 3, 0)})
            self.bounds("gaps", 0, MOST, lambda number: {**others, name: (5, number, 2)})
            self.bounds("gaps", 0, 5, lambda number: {**others, name: (5, 3, number)})
            self.bad("gaps", gaps={other: (5, 3, 2) for other in GAPS if other != name})
            self.bad("gaps", gaps={other + ("s" if other == name else ""): (5, 3, 2) for other in GAPS})
        self.bounds("gaps", 0, MOST, lambda number: {**others, "item": (MOST, 3, number)})
        self.good(gaps={name: (0, 0, 0) for name in GAPS})
        self.bad("gaps", gaps={**others, "para": (5, 3, 2)})

    def test_limits(self):
        for name in LIMITS:
            others = {other: 3 for other in LIMITS}
            low = 1 if name == "keep" else 0
            self.bounds("limits", low, MOST, lambda number: {**others, name: number})
            self.bad("limits", limits={other: 3 for other in LIMITS if other != name})
            self.bad("limits", limits={other + ("s" if other == name else ""): 3 for other in LIMITS})
        self.bad("limits", limits={**others, "more": 3})

    def test_fonts(self):
        for use in USES:
            others = {other: FONT for other in USES}
            self.bad("fonts", fonts={other: FONT for other in USES if other != use})
            self.bad("fonts", fonts={other + ("3" if other == use else ""): FONT for other in USES})
            for wrong in [("font", "A", FONT[2], {}), ("font", "a", {}, {}), ("font", "a", {SOFT: (0, 0, 0)}, {}),
                          ("font", "a", FONT[2], {("a", "b"): 0}), ("font", "a", FONT[2], {("a", "a"): 1})]:
                self.bad("fonts", fonts={**others, use: wrong})
        self.bad("fonts", fonts={**others, "head3": FONT})
        self.bad("fonts", fonts={**others, 1: FONT})

    def test_hyphens(self):
        self.good(hyphens=("hyphens", [], [], 1, 9))
        for wrong in [("hyphens", ["1"], [], 1, 1), ("hyphens", ["ab", "a1b"], [], 1, 1), ("hyphens", [], ["-"], 1, 1),
                      ("hyphens", [], ["a-b", "ab"], 1, 1), ("hyphens", [], [], 0, 1), ("hyphens", [], [], 1, 10)]:
            self.bad("hyphens", hyphens=wrong)

    def test_order(self):
        # Of two parts with a fault the first one is told.
        for first, second in itertools.combinations(PARTS, 2):
            self.bad(first, **{first: WRONG[first], second: WRONG[second]})
        for at, part in enumerate(PARTS):
            self.bad(part, **{later: WRONG[later] for later in PARTS[at:]})
        # An indent that is too great for a measure with a fault is not the first fault.
        self.bad("measure", measure=-5, indent=0)


class TestLineCosts(unittest.TestCase):
    """Which penalties are the costs of point 7.6, as points 15.1 and 17.3 say."""

    def test_line_costs(self):
        penalties = {name: at for at, name in enumerate(PENALTIES)}
        told = call(self, line_costs, style(penalties=penalties))
        self.assertEqual(told, (penalties["line"], penalties["double"], penalties["fitness"]))


class TestDefault(unittest.TestCase):
    """Point 5.3."""

    def setUp(self):
        self.style = default_style()
        _, self.fonts, self.measure, self.height, self.leading, self.indent, _, self.tolerance = self.style[:8]

    def test_no_fault(self):
        self.assertIsNone(check_style(self.style))
        for use in USES:
            self.assertIsNone(check_font(self.fonts[use]))
        self.assertIsNone(check_hyphens(self.style[11]))
        self.assertEqual(self.tolerance, 10000)

    def test_it_is_the_same_each_time(self):
        self.assertEqual(default_style(), self.style)
        other = default_style()
        kept = deepcopy(other)
        for use in USES:
            self.style[1][use][2].clear()
        self.style[11][1].clear()
        self.assertEqual(other, kept)
        self.assertEqual(default_style(), kept)

    def test_glyphs(self):
        signs = [chr(code) for code in range(33, 127) if code != 37]
        for use in USES:
            glyphs = self.fonts[use][2]
            self.assertEqual(set(glyphs), {*signs, "ff", "fi", "fl", "ffi", "ffl", SOFT})
            self.assertEqual(shape(self.fonts[use], "".join(signs)), signs)
            self.assertEqual(shape(self.fonts[use], "offifflfffifl"), ["o", "ffi", "ffl", "ff", "fi", "fl"])
            # Lines are found on pages by what is above their baselines.
            self.assertGreaterEqual(min(height for _, height, _ in glyphs.values()), 1)

    def test_a_word_of_twenty_characters_fits(self):
        costs = tuple(self.style[8][name] for name in ("line", "double", "fitness"))
        for use in ["text", "strong", "note", "head1", "head2"]:
            font = self.fonts[use]
            widest = max((sign for sign in font[2] if len(sign) == 1), key=lambda sign: font[2][sign][0])
            for sign in {widest, "i", "m", "-", "@"}:
                word = sign * 20
                self.assertLessEqual(self.indent + width(font, shape(font, word)), self.measure)
                run_use = use if use in ("text", "strong") else "text"
                for ahead in ["", "12.3 "]:
                    runs = [("text", run_use, ahead + word)]
                    items, _ = items_of(self.style, runs, "" if use == run_use else use, self.indent, 1)
                    best_breaks(items, self.measure, self.tolerance, costs)

    def test_room_on_a_page(self):
        fonts = self.fonts
        gaps, limits = self.style[9], self.style[10]
        tallest = max(glyph[1] for font in fonts.values() for glyph in font[2].values())
        deepest = max(glyph[2] for font in fonts.values() for glyph in font[2].values())
        lines = 12 * (tallest + deepest) + 11 * max(self.leading, limits["least"]) + 2 * gaps["paragraph"][0]
        notes = 3 * (tallest + deepest)
        self.assertLessEqual(notes, limits["notes"])
        self.assertLessEqual(lines + gaps["note"][0] + notes, self.height)


if __name__ == "__main__":
    unittest.main()

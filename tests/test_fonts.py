"""Fonts: points 2.1 to 2.5, 0.2 and 0.3."""

import itertools
import random
import unittest

from galleypapers.errors import FontError, GlyphError
from galleypapers.fonts import SOFT, check_font, extents, positions, shape, text_of, width
from tests.helper import call, fault

VISIBLE = [chr(code) for code in range(33, 127) if code != 37]
SIZES = {"o": (5, 4, 0), "f": (3, 7, 0), "ff": (6, 7, 0), "i": (2, 7, 0), "ffi": (7, 7, 0), SOFT: (3, 3, 0)}
FONT = ("font", "small", SIZES, {("o", "ffi"): -1})


def font(glyphs=(), kerns=(), name="small", soft=True):
    """A font with some characters of ordinary sizes, and with other glyphs and kerns."""
    sizes = {"a": (5, 4, 1), "b": (5, 7, 0)}
    if soft:
        sizes[SOFT] = (3, 3, 0)
    sizes.update(glyphs)
    return ("font", name, sizes, dict(kerns))


class TestExamples(unittest.TestCase):
    def test_examples(self):
        self.assertEqual(call(self, shape, FONT, "offio"), ["o", "ffi", "o"])
        self.assertEqual(call(self, positions, FONT, ["o", "ffi", "o"]), [0, 4, 11, 16])
        self.assertEqual(call(self, text_of, ["o", "ff", SOFT]), "off")

    def test_soft(self):
        self.assertEqual(SOFT, "-\n")


class TestCheck(unittest.TestCase):
    def good(self, one):
        self.assertIsNone(call(self, check_font, one))

    def bad(self, one, at):
        error = fault(self, FontError, check_font, one)
        self.assertEqual(error.at, at)
        self.assertIs(type(error.at), type(at))

    def test_ordinary(self):
        self.good(FONT)
        self.good(font())
        self.good(("font", "a", {SOFT: (1, 0, 0)}, {}))

    def test_names(self):
        for name in ["a", "z", "a1", "z9", "abcdefghijklmnop", "a234567890123456"]:
            with self.subTest(name):
                self.good(font(name=name))
        for name in ["", "A", "1", "1a", "aB", "a-b", "a b", " a", "a ", "a.", "a\n", "abcdefghijklmnopq",
                     "a2345678901234567", "a_", "`", "{", "a{", "a:", "a/"]:
            with self.subTest(name):
                self.bad(font(name=name), name)

    def test_all_characters_are_glyphs(self):
        self.good(font({sign: (1, 0, 0) for sign in VISIBLE}))

    def test_other_characters_are_no_glyphs(self):
        for sign in [" ", "\n", "%", "", "\t", "\x7f", "\x00", "\xe4"]:
            with self.subTest(sign):
                self.bad(font({sign: (1, 0, 0)}), sign)

    def test_ligatures(self):
        self.good(font({"ab": (1, 0, 0), "aba": (1, 0, 0), "abab": (1, 0, 0)}))
        self.good(font({"[": (1, 0, 0), "[-": (1, 0, 0), "[-]": (1, 0, 0)}))
        long = {"ab": (1, 0, 0), "aba": (1, 0, 0), "abab": (1, 0, 0), "ababa": (1, 0, 0)}
        self.bad(font(long), "ababa")

    def test_beginnings(self):
        self.bad(font({"xa": (1, 0, 0)}), "xa")
        self.bad(font({"aba": (1, 0, 0)}), "aba")
        self.bad(font({"ab": (1, 0, 0), "abab": (1, 0, 0)}), "abab")
        self.bad(font({"aba": (1, 0, 0), "abab": (1, 0, 0)}), "aba")
        # Only beginnings are asked for: an end may be missing.
        self.good(font({"ax": (1, 0, 0), "axy": (1, 0, 0)}))

    def test_signs_in_ligatures(self):
        for glyph in ["a b", "a ", "a%", "a\n", "a\xe4"]:
            with self.subTest(glyph):
                self.bad(font({"a": (1, 0, 0), glyph[:2]: (1, 0, 0), glyph: (1, 0, 0)}), glyph[:2])
        self.bad(font({"-": (1, 0, 0), "-\n-": (1, 0, 0)}), "-\n-")
        self.bad(font({"\n-": (1, 0, 0)}), "\n-")

    def test_soft_needs_no_hyphen(self):
        self.assertNotIn("-", font()[2])
        self.good(font())

    def test_sizes(self):
        for sizes in [(1, 0, 0), (100000, 100000, 100000), (1, 100000, 0), (1, 0, 100000)]:
            with self.subTest(sizes):
                self.good(font({"x": sizes}))
                self.good(font({SOFT: sizes}))
        wrong = [(0, 0, 0), (-1, 0, 0), (100001, 0, 0), (1, -1, 0), (1, 100001, 0), (1, 0, -1), (1, 0, 100001)]
        for sizes in wrong:
            with self.subTest(sizes):
                self.bad(font({"x": sizes}), "x")
                self.bad(font({"ab": sizes}), "ab")
                self.bad(font({SOFT: sizes}), SOFT)

    def test_soft_is_missing(self):
        self.bad(font(soft=False), SOFT)
        self.bad(("font", "a", {}, {}), SOFT)

    def test_kerns(self):
        for pair in [("a", "b"), ("a", "a"), ("a", SOFT), (SOFT, "a"), (SOFT, SOFT)]:
            with self.subTest(pair):
                self.good(font(kerns={pair: 0}))
                self.good(font(kerns={pair: -2}))
                self.bad(font(kerns={pair: 1}), pair)
        for left, right in [("a", "x"), ("x", "a"), ("", "a"), ("a", ""), ("ab", "a"), ("a", "aa")]:
            self.bad(font(kerns={(left, right): 0}), (left, right))

    def test_bounds_of_kerns(self):
        self.good(font(kerns={("a", "b"): -4}))
        self.bad(font(kerns={("a", "b"): -5}), ("a", "b"))
        self.bad(font(kerns={("a", "b"): -6}), ("a", "b"))
        wide = {"w": (100000, 0, 0)}
        self.good(font(wide, {("w", "a"): -99999}))
        self.bad(font(wide, {("w", "a"): -100000}), ("w", "a"))
        self.bad(font(wide, {("w", "a"): -100001}), ("w", "a"))
        # It is the left glyph that must stay wider than the kern.
        self.bad(font(wide, {("a", "w"): -5}), ("a", "w"))

    def test_order_of_faults(self):
        bad_glyph, bad_kern = {"z": (0, 0, 0)}, {("a", "q"): 0}
        self.bad(font(bad_glyph, bad_kern, "A", False), "A")
        self.bad(font(bad_glyph, bad_kern, "a", False), "z")
        self.bad(font((), bad_kern, "a", False), SOFT)
        self.bad(font((), bad_kern), ("a", "q"))
        self.bad(font(bad_glyph, name=""), "")
        self.bad(font(bad_glyph, bad_kern), "z")

    def test_least_key(self):
        for keys in itertools.permutations(["B", "c", "ca", "~"]):
            self.bad(font({key: (0, 0, 0) for key in keys}), "B")
        for keys in itertools.permutations(["c", "xy", "a\n", SOFT]):
            self.bad(font({key: (0, 0, 0) for key in keys}), SOFT)
        self.bad(font({"b": (0, 0, 0), "a b": (1, 0, 0)}), "a b")
        self.bad(font({"xy": (1, 0, 0), "x!": (1, 0, 0)}), "x!")
        for pairs in itertools.permutations([("a", "q"), ("a", "bb"), ("b", "a"), ("aa", "a")]):
            self.bad(font(kerns={pair: 1 for pair in pairs}), ("a", "bb"))


class TestShape(unittest.TestCase):
    def test_longest_first(self):
        glyphs = {"f": (3, 7, 0), "i": (2, 7, 0), "l": (2, 7, 0)}
        one = font({**glyphs, "ff": (6, 7, 0), "ffi": (7, 7, 0), "ffil": (8, 7, 0), "fi": (5, 7, 0)})
        for text, row in [
                ("fi", ["fi"]), ("ff", ["ff"]), ("ffi", ["ffi"]), ("fff", ["ff", "f"]), ("fffi", ["ff", "fi"]),
                ("ffffi", ["ff", "ffi"]), ("ffil", ["ffil"]), ("ffilffi", ["ffil", "ffi"]), ("afb", ["a", "f", "b"]),
                ("fil", ["fi", "l"]), ("f", ["f"]), ("", [])]:
            with self.subTest(text):
                self.assertEqual(call(self, shape, one, text), row)

    def test_from_the_left(self):
        # The ligature that begins first is taken, not the longest one of the text.
        one = font({"ab": (1, 0, 0), "bb": (1, 0, 0), "bba": (1, 0, 0), "bbab": (1, 0, 0)})
        self.assertEqual(shape(one, "abbab"), ["ab", "b", "ab"])
        self.assertEqual(shape(one, "bbab"), ["bbab"])

    def test_shorter_ligature_at_the_end(self):
        one = font({"ab": (1, 0, 0), "aba": (1, 0, 0), "abab": (1, 0, 0)})
        self.assertEqual(shape(one, "abababa"), ["abab", "aba"])
        self.assertEqual(shape(one, "ababab"), ["abab", "ab"])
        self.assertEqual(shape(one, "ababa"), ["abab", "a"])

    def test_missing_characters(self):
        for text, at in [("x", 0), ("ax", 1), ("abxx", 2), ("axbx", 1), ("A", 0)]:
            with self.subTest(text):
                self.assertEqual(fault(self, GlyphError, shape, font(), text).at, at)

    def test_missing_within_a_ligature(self):
        # The font has the ligature, yet its second character is no glyph by itself.
        one = font({"ax": (1, 0, 0), "axy": (1, 0, 0)})
        check_font(one)
        self.assertEqual(fault(self, GlyphError, shape, one, "ax").at, 1)
        self.assertEqual(fault(self, GlyphError, shape, one, "bbaxy").at, 3)
        self.assertEqual(fault(self, GlyphError, shape, one, "axz").at, 1)
        self.assertEqual(fault(self, GlyphError, shape, one, "zax").at, 0)

    def test_spaces_and_newlines(self):
        one = font({"-": (2, 0, 0)})
        for text, at in [(" ", 0), ("\n", 0), ("a b", 1), ("ab\n", 2), ("a- \n", 2)]:
            with self.subTest(text):
                self.assertEqual(fault(self, GlyphError, shape, one, text).at, at)

    def test_soft_is_not_found_in_texts(self):
        self.assertEqual(fault(self, GlyphError, shape, font({"-": (2, 0, 0)}), "a" + SOFT).at, 2)
        self.assertEqual(fault(self, GlyphError, shape, font(), "a" + SOFT).at, 1)
        self.assertEqual(shape(font({"-": (2, 0, 0)}), "a-"), ["a", "-"])

    def test_all_characters(self):
        one = font({sign: (1, 0, 0) for sign in VISIBLE})
        self.assertEqual(shape(one, "".join(VISIBLE)), VISIBLE)
        for sign in VISIBLE:
            if sign not in "ab":
                self.assertEqual(fault(self, GlyphError, shape, font(), "b" + sign).at, 1)

    def test_many_texts(self):
        chance = random.Random(1)
        for _ in range(300):
            sizes = {sign: (1, 0, 0) for sign in "abc"}
            for size in (2, 3, 4):
                for signs in itertools.product("abc", repeat=size):
                    glyph = "".join(signs)
                    if glyph[:-1] in sizes and chance.random() < 0.4:
                        sizes[glyph] = (1, 0, 0)
            one = font(sizes)
            text = "".join(chance.choice("abc") for _ in range(chance.randint(0, 12)))
            row = call(self, shape, one, text)
            self.assertEqual("".join(row), text)
            start = 0
            for glyph in row:
                fitting = [key for key in one[2] if text.startswith(key, start)]
                self.assertEqual(glyph, max(fitting, key=len))
                start += len(glyph)


class TestRows(unittest.TestCase):
    def test_texts(self):
        for glyphs, text in [([], ""), ([SOFT], ""), (["a", SOFT, "b"], "ab"), (["-", SOFT], "-"),
                             (["ffi", "f", "ab"], "ffifab"), (["[", "\\"], "[\\")]:
            with self.subTest(glyphs):
                self.assertEqual(call(self, text_of, glyphs), text)

    def test_empty(self):
        self.assertEqual(call(self, positions, FONT, []), [0])
        self.assertEqual(call(self, width, FONT, []), 0)
        self.assertEqual(call(self, extents, FONT, []), (0, 0))

    def test_kerns(self):
        one = font({"w": (10, 9, 3)}, {("a", "b"): -4, ("b", "a"): -1, ("b", "b"): 0, ("w", SOFT): -2})
        check_font(one)
        for glyphs, edges in [
                (["a"], [0, 5]), (["a", "b"], [0, 1, 6]), (["b", "a"], [0, 4, 9]), (["b", "b"], [0, 5, 10]),
                (["a", "b", "a"], [0, 1, 5, 10]), (["a", "a"], [0, 5, 10]), (["w", SOFT], [0, 8, 11]),
                ([SOFT, "w"], [0, 3, 13]), (["w", "a", "b"], [0, 10, 11, 16]), ([SOFT], [0, 3])]:
            with self.subTest(glyphs):
                self.assertEqual(call(self, positions, one, glyphs), edges)
                self.assertEqual(call(self, width, one, glyphs), edges[-1])

    def test_extents(self):
        one = font({"w": (10, 9, 0), "y": (4, 2, 6)})
        for glyphs, sizes in [(["a"], (4, 1)), (["w", "y"], (9, 6)), (["y", "a"], (4, 6)), ([SOFT], (3, 0)),
                              (["b", SOFT], (7, 0)), ([SOFT, "y", SOFT], (3, 6))]:
            with self.subTest(glyphs):
                self.assertEqual(call(self, extents, one, glyphs), sizes)
                self.assertIs(type(extents(one, glyphs)), tuple)


if __name__ == "__main__":
    unittest.main()

"""Hyphens: points 3.1 to 3.5, 0.2 and 0.3."""

import random
import unittest

from galleypapers.errors import HyphenError
from galleypapers.hyphens import Divider, check_hyphens, divided, points
from tests.helper import call, fault, slow_points

TABLE = ("hyphens", ["a1b", "b2l", ".a2"], ["ta-ble"], 1, 2)
TEXT_CHARACTERS = "\n" + "".join(chr(code) for code in range(32, 127) if code != 37)


def hyphens(patterns=(), exceptions=(), left=1, right=1):
    return ("hyphens", list(patterns), list(exceptions), left, right)


class TestCheck(unittest.TestCase):
    def good(self, one):
        self.assertIsNone(call(self, check_hyphens, one))

    def bad(self, one, kind, at):
        error = fault(self, HyphenError, check_hyphens, one)
        self.assertEqual((error.kind, error.at), (kind, at))

    def test_ordinary(self):
        self.good(TABLE)
        self.good(hyphens())

    def test_patterns(self):
        twelve = "abcdefghijkl"
        for text in ["a", "z", ".a", "a.", ".a.", "1a", "a1", "0a9", "1.a", "a.1", "1.2a3.4", "a1b2c3", "9a.", twelve,
                     f".{twelve}.", "1" + "1".join(f".{twelve}.") + "1", "aaa"]:
            with self.subTest(text):
                self.good(hyphens([text]))

    def test_no_patterns(self):
        for text in ["", ".", "..", "1", "11", "1.", ".1", "1.1", ".1.", "11a", "a11", "a12b", "1.22a", "a.11", "A",
                     "aB", "a-b", "a b", " a", "a\n", "..a", "a..", "a.b", ".a.b", "a.b.", ".1.a", "a,", "`", "{", ":a",
                     "/a", "abcdefghijklm", ".abcdefghijklm", "a1bcdefghijklm.", "\xe4", "\xb2a", "a\u0661"]:
            with self.subTest(text):
                self.bad(hyphens([text]), "pattern", 0)
                self.bad(hyphens(["b1c", text]), "pattern", 1)

    def test_signs_of_an_earlier_pattern(self):
        self.bad(hyphens(["ab", "ab"]), "pattern", 1)
        self.bad(hyphens(["a1b", "cd", "2a3b4"]), "pattern", 2)
        self.bad(hyphens([".a1", "a1.", ".a.", "2.a"]), "pattern", 3)
        self.bad(hyphens(["ab", "ab", ""]), "pattern", 1)
        self.good(hyphens(["ab", ".ab", "ab.", ".ab.", "a", "b", "ba"]))

    def test_divided_words(self):
        for text in ["a", "ab", "a-b", "ab-cd-e", "a" * 30 + "-b"]:
            with self.subTest(text):
                self.good(hyphens([], [text]))
        for text in ["", "-", "--", "-a", "a-", "a--b", "a-b-", "-a-b", "A", "a-B", "a b", "a.b", "a1", "a-1", "a\n",
                     "a-\n", "\xe4", "`-{"]:
            with self.subTest(text):
                self.bad(hyphens([], [text]), "exception", 0)
                self.bad(hyphens(["a1b"], ["b-c", text, "b-c"]), "exception", 1)

    def test_letters_of_an_earlier_word(self):
        self.bad(hyphens([], ["ab", "ab"]), "exception", 1)
        self.bad(hyphens([], ["ab-c", "x", "a-bc"]), "exception", 2)
        self.good(hyphens([], ["ab", "ab-c", "b-c"]))

    def test_least_letters(self):
        for number in range(1, 10):
            self.good(hyphens([], [], number, 10 - number))
        for number in [-1, 0, 10, 11]:
            self.bad(hyphens([], [], number, 1), "left", 0)
            self.bad(hyphens([], [], 1, number), "right", 0)
            self.bad(hyphens([], [], number, number), "left", 0)
        self.good(hyphens([], [], 9, 9))

    def test_order_of_faults(self):
        self.bad(hyphens(["a", ""], ["", "a"], 0, 0), "pattern", 1)
        self.bad(hyphens(["a"], ["b", ""], 0, 0), "exception", 1)
        self.bad(hyphens(["a"], ["b"], 0, 0), "left", 0)
        self.bad(hyphens(["a"], ["b"], 1, 0), "right", 0)
        self.bad(hyphens(["a", "1a", ""], []), "pattern", 1)


class TestPoints(unittest.TestCase):
    def same(self, one, text, places):
        """Both the function and a divider, also one that has been used, find the places."""
        self.assertEqual(call(self, points, one, text), places)
        divider = call(self, Divider, one)
        self.assertEqual(divider.points(text), places)
        self.assertEqual(divider.points(text), places)

    def test_examples(self):
        self.same(TABLE, "cabal", [2])
        self.same(TABLE, "Table-cabs", [2, 8])

    def test_greatest_number(self):
        self.same(hyphens(["a1b"]), "ab", [1])
        self.same(hyphens(["a1b", "xa2b"]), "ab", [1])
        self.same(hyphens(["a1b", "xa2b"]), "xab", [])
        self.same(hyphens(["a1b", "xa2b", "xa3by"]), "xaby", [2])
        self.same(hyphens(["a3b", "xa2b", "xa1by"]), "xaby", [2])
        self.same(hyphens(["a9b", "xa8b"]), "xab", [2])
        self.same(hyphens(["a0b"]), "ab", [])
        self.same(hyphens(["a2", "1b"]), "ab", [])
        self.same(hyphens(["a2", "3b"]), "ab", [1])

    def test_dots(self):
        self.same(hyphens([".a1"]), "aa", [1])
        self.same(hyphens([".a1"]), "aaa", [1])
        self.same(hyphens(["1a."]), "aaa", [2])
        self.same(hyphens([".a1b."]), "ab", [1])
        self.same(hyphens([".a1b."]), "abc", [])
        self.same(hyphens([".a1b."]), "cab", [])
        self.same(hyphens(["a1"]), "aaa", [1, 2])

    def test_numbers_outside_of_the_word(self):
        self.same(hyphens(["1.1a", "a1.1", "1b", "c1"]), "a", [])
        self.same(hyphens(["1.1a", "b1.1"]), "ab", [])
        self.same(hyphens(["1a", "b1"]), "ab", [])

    def test_a_pattern_fits_at_several_places(self):
        self.same(hyphens(["a1a"]), "aaaa", [1, 2, 3])
        self.same(hyphens(["a1ab"]), "aabaab", [1, 4])
        self.same(hyphens(["abc1d"]), "abcdabcd", [3, 7])
        self.same(hyphens(["abcdefghijkl1"]), "abcdefghijklabcdefghijklx", [12, 24])

    def test_exceptions(self):
        one = hyphens(["a1b"], ["a-ba", "abb", "cab-a"])
        self.same(one, "aba", [1])
        self.same(one, "abb", [])
        self.same(one, "caba", [3])
        self.same(one, "xaba", [2])
        self.same(one, "abaa", [1])

    def test_least_letters(self):
        for left in range(1, 6):
            for right in range(1, 6):
                every = [k for k in range(1, 6) if k >= left and 6 - k >= right]
                self.same(hyphens(["a1a"], [], left, right), "aaaaaa", every)
                self.same(hyphens([], ["a-a-a-a-a-a"], left, right), "aaaaaa", every)

    def test_least_letters_count_in_each_word(self):
        self.same(hyphens(["a1b"], ["b-b"], 2, 1), "xab ab ab-bb", [2])
        self.same(hyphens(["a1b"], ["b-b"], 1, 2), "abx ab bb", [1])

    def test_capitals(self):
        self.same(hyphens(["a1b"], ["c-d"]), "AB aB Ab cD CD", [1, 4, 7, 10, 13])
        self.same(hyphens(["z1z"]), "zZ", [1])

    def test_other_characters(self):
        for sign in TEXT_CHARACTERS:
            with self.subTest(sign):
                if not sign.isalpha():
                    self.same(hyphens(["a1b", ".b1c", "1d."]), f"ab{sign}bcd", [1, 4, 5])
                    self.same(hyphens(["a1b"]), f"a{sign}b", [])
        self.same(hyphens(["a1b"]), "  ab--ab\nab1ab ", [3, 7, 10, 13])
        self.same(hyphens(["a1b"]), "", [])
        self.same(hyphens(["a1b"]), "-", [])
        self.same(hyphens(["a1b"]), "a", [])
        self.same(hyphens(), "abc abc", [])

    def test_one_divider_for_many_words(self):
        divider = Divider(TABLE)
        for word in ["cabal", "Table-cabs", "", "able", "cabal"]:
            self.assertEqual(divider.points(word), points(TABLE, word))

    def test_points_may_be_changed_by_the_caller(self):
        divider = Divider(TABLE)
        for word in ["table", "cabal"]:
            found = divider.points(word)
            found.append(99)
            self.assertEqual(divider.points(word), [2])

    def test_many(self):
        chance = random.Random(2)
        for _ in range(300):
            one = hyphens(some_patterns(chance), some_words(chance), chance.randint(1, 3), chance.randint(1, 3))
            check_hyphens(one)
            text = "".join(chance.choice("aaabbbcAB -.1") for _ in range(chance.randint(0, 30)))
            self.same(one, text, slow_points(one, text))


def some_patterns(chance):
    found = {}
    for _ in range(chance.randint(0, 12)):
        letters = "".join(chance.choice("abc") for _ in range(chance.randint(1, 4)))
        signs = chance.choice(["", "", "."]) + letters + chance.choice(["", "", "."])
        digits = [chance.choice(["", "", "0", "1", "2", "3"]) for _ in range(len(signs) + 1)]
        found[signs] = digits[0] + "".join(sign + digit for sign, digit in zip(signs, digits[1:]))
    return list(found.values())


def some_words(chance):
    found = {}
    for _ in range(chance.randint(0, 3)):
        parts = [chance.choice(["a", "b", "ab", "ba", "c"]) for _ in range(chance.randint(1, 3))]
        found["".join(parts)] = "-".join(parts)
    return list(found.values())


class TestDivided(unittest.TestCase):
    def test_parts(self):
        for word, places, parts in [
                ("cabal", [2], ["ca", "bal"]), ("cabal", [], ["cabal"]), ("cabal", [1, 2, 4], ["c", "a", "ba", "l"]),
                ("cabal", [1, 2, 3, 4], list("cabal")), ("a b", [1], ["a", " b"]), ("a", [], ["a"]), ("", [], [""])]:
            with self.subTest(word):
                self.assertEqual(call(self, divided, word, places), parts)


if __name__ == "__main__":
    unittest.main()

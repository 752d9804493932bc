"""Learned patterns: points 3.6 and 0.2."""

import random
import re
import unittest

from galleypapers.errors import HyphenError
from galleypapers.hyphens import check_hyphens, learned, points
from tests.helper import call, fault, slow_points


def letters_of(word):
    return word.replace("-", "")


def points_of(word, left, right):
    """The points of a divided word that are not left out."""
    parts = word.split("-")
    places = [len("".join(parts[:k])) for k in range(1, len(parts))]
    return [p for p in places if left <= p <= len(letters_of(word)) - right]


def steps(patterns):
    """All lists of patterns that one step makes: one left out, or without its first or last sign."""
    for at, pattern in enumerate(patterns):
        rest = patterns[:at] + patterns[at + 1:]
        yield rest
        yield rest + [re.sub("^[0-9]?[a-z.]", "", pattern)]
        yield rest + [re.sub("[a-z.][0-9]?$", "", pattern)]


class TestLearned(unittest.TestCase):
    def keeps(self, patterns, words, left, right):
        """Tell whether patterns are without a fault and give all words their points."""
        hyphens = ("hyphens", patterns, [], left, right)
        try:
            check_hyphens(hyphens)
        except HyphenError:
            return False
        return all(slow_points(hyphens, letters_of(word)) == points_of(word, left, right) for word in words)

    def right(self, words, left=1, right=1):
        """Patterns are learned that keep all of point 3.6; return them."""
        patterns = call(self, learned, words, left, right)
        self.assertIs(type(patterns), list)
        self.assertEqual(patterns, sorted(patterns))
        self.assertTrue(self.keeps(patterns, words, left, right), (words, patterns))
        for other in steps(patterns):
            self.assertFalse(self.keeps(other, words, left, right), (words, patterns, other))
        hyphens = ("hyphens", patterns, [], left, right)
        for word in words:
            self.assertEqual(points(hyphens, letters_of(word)), points_of(word, left, right))
        return patterns

    def test_nothing_to_learn(self):
        self.assertEqual(self.right([]), [])
        self.assertEqual(self.right(["a", "abc", "table"]), [])
        self.assertEqual(self.right(["a-bcd", "abc-d"], 2, 2), [])
        self.assertEqual(self.right(["a-b-c-d-e"], 9, 9), [])

    def test_ordinary(self):
        self.right(["ta-ble"])
        self.right(["ta-ble", "ca-bal", "gal-ley", "pa-per", "pa-pers", "pat-tern", "let-ter", "hy-phen"], 2, 2)
        self.right(["hy-phen-a-tion", "na-tion", "sta-tion", "sta-tis-tic", "ten-sion", "en-tity"], 2, 3)

    def test_words_of_which_others_are_parts(self):
        self.right(["a-b", "ab-c", "aab", "a-ab-b", "abcab", "b-ab"])
        self.right(["aa", "a-aa", "aa-aa", "a-a-a-a-a", "aaaaaa"])
        self.right(["a-b", "aba-b", "abab-ab"])

    def test_points_left_out(self):
        self.right(["a-bcde", "abcd-e", "ab-cd-ef", "bc-de"], 2, 2)
        self.right(["a-b-c-d-e-f"], 3, 2)
        self.right(["a-b-c-d-e-f"], 1, 4)

    def test_length(self):
        self.right(["a-b-c-d-e-f-g-h-i-j-k-l"])
        self.right(["abcdef-ghijkl", "abcdefghijkl".replace("l", "m"), "a" * 12, "b" * 11 + "-b"])
        for word in ["abcdefghijklm", "abcdef-ghijklm", "a-b-c-d-e-f-g-h-i-j-k-l-m"]:
            self.wrong(["a-b", word], 1)

    def test_twelve_letters_that_need_all_signs(self):
        # The point is due in one word alone, and barred wherever either end is longer.
        word = "aaaaaa-aaaaaa"
        others = ["a" * k for k in range(1, 12)]
        self.right([word] + others)

    def test_random_words(self):
        chance = random.Random(3)
        for _ in range(120):
            words = {}
            for _ in range(chance.randint(1, 25)):
                letters = [chance.choice("aabbc") for _ in range(chance.randint(1, 8))]
                word = letters[0] + "".join(chance.choice(["", "", "-"]) + letter for letter in letters[1:])
                words.setdefault(letters_of(word), word)
            self.right(list(words.values()), chance.randint(1, 3), chance.randint(1, 3))

    def test_bounds_of_least_letters(self):
        words = ["abcdefghi-jkl", "abc-defghijkl", "abcdefghi-jk", "ab-cdefghijk"]
        for left, right in [(1, 9), (9, 1), (9, 9), (9, 3), (3, 9)]:
            self.right(words[:1] + words[2:3], left, right)
            self.right(words[1:2] + words[3:], left, right)

    def wrong(self, words, at, left=1, right=1):
        error = fault(self, HyphenError, learned, words, left, right)
        self.assertEqual((error.kind, error.at), ("word", at))

    def test_no_divided_words(self):
        for word in ["", "-", "-a", "a-", "a--b", "A", "a-B", "a b", "a1b", ".ab", "a\n"]:
            with self.subTest(word):
                self.wrong([word], 0)
                self.wrong(["a-b", "bc", word, ""], 2)

    def test_letters_of_an_earlier_word(self):
        self.wrong(["ab-c", "a-bc"], 1)
        self.wrong(["abc", "x-y", "ab-c", ""], 2)
        self.wrong(["ab-c", "abc"], 1)
        self.wrong(["ab-cd", "a-b-cd"], 1, 1, 2)
        self.right(["ab-c", "x-y", "ab-c", "ab-c"])
        self.right(["abc", "abc"])

    def test_words_that_differ_in_points_left_out(self):
        self.right(["ab-cd", "a-b-cd", "ab-c-d", "a-b-c-d"], 2, 2)
        self.right(["abcd", "abc-d"], 1, 2)
        self.right(["abcd", "a-bcd"], 2, 1)
        self.wrong(["ab-cd", "a-b-cd", "ab-c-d"], 2, 2, 1)
        self.wrong(["ab-cd", "abc-d"], 1, 2, 2)

    def test_the_first_fault_counts(self):
        self.wrong(["a-b", "ab", "-"], 1)
        self.wrong(["a-b", "-", "ab"], 1)
        self.wrong(["a" * 13, "-"], 0)


if __name__ == "__main__":
    unittest.main()

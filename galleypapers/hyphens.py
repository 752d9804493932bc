"""Hyphens: patterns, divided words, and the points of words (points 3.1 to 3.6)."""

from galleypapers.characters import are_small, is_digit, is_letter
from galleypapers.errors import HyphenError
from galleypapers.learning import Learner

_MOST_LETTERS = 12
_LEAST_AT_END = 1
_MOST_AT_END = 9


def check_hyphens(hyphens):
    """Raise HyphenError for the first fault of hyphens, if they have one."""
    patterns, exceptions, left, right = hyphens[1:]
    at = _first_wrong([_pattern(text)[0] for text in patterns])
    if at is not None:
        raise HyphenError("pattern", at)
    at = _first_wrong([_divided_word(text)[0] for text in exceptions])
    if at is not None:
        raise HyphenError("exception", at)
    if not _LEAST_AT_END <= left <= _MOST_AT_END:
        raise HyphenError("left", 0)
    if not _LEAST_AT_END <= right <= _MOST_AT_END:
        raise HyphenError("right", 0)


def _first_wrong(keys):
    """Return the index of the first key that is empty or there before, or None."""
    seen = {}
    for at, key in enumerate(keys):
        if key == "" or key in seen:
            return at
        seen[key] = True
    return None


def _pattern(text):
    """Return the signs of a pattern and the numbers around them; no signs if it is none."""
    signs = ""
    numbers = [0]
    filled = False
    for sign in text:
        if not is_digit(sign):
            signs += sign
            numbers.append(0)
            filled = False
        elif filled:
            return "", []
        else:
            numbers[-1] = int(sign)
            filled = True
    letters = signs.removeprefix(".").removesuffix(".")
    if not are_small(letters) or len(letters) > _MOST_LETTERS:
        return "", []
    return signs, numbers


def _divided_word(text):
    """Return the letters and the points of a divided word; no letters if it is none."""
    letters = ""
    places = []
    for part in text.split("-"):
        if not are_small(part):
            return "", []
        letters += part
        places.append(len(letters))
    return letters, places[:-1]


def _kept(places, letters, left, right):
    """Return the places of a word that have enough letters on both sides."""
    return [place for place in places if left <= place <= len(letters) - right]


class Divider:
    """The hyphens of a language, ready for many words."""

    def __init__(self, hyphens):
        patterns, exceptions, left, right = hyphens[1:]
        self.left = left
        self.right = right
        self.patterns = {}
        self.longest = 0
        for text in patterns:
            signs, numbers = _pattern(text)
            self.patterns[signs] = numbers
            self.longest = max(self.longest, len(signs))
        self.exceptions = {}
        for text in exceptions:
            letters, places = _divided_word(text)
            self.exceptions[letters] = places

    def points(self, word):
        """Return the points of all words of a string, ascending."""
        found = []
        for start, letters in _letter_runs(word):
            if letters in self.exceptions:
                places = self.exceptions[letters]
            else:
                places = self._odd_places(letters)
            for place in _kept(places, letters, self.left, self.right):
                found.append(start + place)
        return found

    def _odd_places(self, letters):
        """Return the places between the letters of a word that have an odd number."""
        dotted = "." + letters + "."
        # The number at an index belongs to the gap with so many signs before it;
        # the dot ahead is one of them, so gaps are greater by 1 than places.
        greatest = [0] * (len(dotted) + 1)
        for start in range(len(dotted)):
            for end in range(start + 1, min(start + self.longest, len(dotted)) + 1):
                numbers = self.patterns.get(dotted[start:end], ())
                for at, number in enumerate(numbers):
                    greatest[start + at] = max(greatest[start + at], number)
        return [place for place in range(1, len(letters)) if greatest[place + 1] % 2 == 1]


def _letter_runs(text):
    """Return the starts of the longest runs of letters, with the runs in small letters."""
    runs = []
    start = 0
    for at, sign in enumerate(text + " "):
        if not is_letter(sign):
            if start < at:
                runs.append((start, text[start:at].lower()))
            start = at + 1
    return runs


def points(hyphens, word):
    """Return the points of a string, ascending."""
    return Divider(hyphens).points(word)


def divided(word, places):
    """Return the parts of a string that is divided at places."""
    parts = []
    start = 0
    for place in places:
        parts.append(word[start:place])
        start = place
    parts.append(word[start:])
    return parts


def learned(words, left, right):
    """Return patterns with which divided words have just their points."""
    known = {}
    for at, text in enumerate(words):
        letters, places = _divided_word(text)
        kept = _kept(places, letters, left, right)
        if letters == "" or len(letters) > _MOST_LETTERS or known.get(letters, kept) != kept:
            raise HyphenError("word", at)
        known[letters] = kept
    barred = {}
    for letters in known:
        every = _kept(list(range(1, len(letters))), letters, left, right)
        barred[letters] = [place for place in every if place not in known[letters]]
    return Learner(known, barred).settled()

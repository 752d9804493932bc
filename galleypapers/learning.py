"""Learning patterns from words (point 3.6).

All numbers of the patterns here are 0 or 1. So a pattern is its signs and its
ones: the list of the numbers of signs ahead of each 1, ascending. A gap of a
word is known by the number of signs before it, the dot ahead of it included.
"""

_FREE = 0
_DUE = 1
_BARRED = 2


class Learner:
    """Patterns that give words their points, made shorter and fewer step by step.

    `spots` tells for signs the words, by their numbers, and the places in them
    where the signs stand. `claims` tells for each gap of each word whether a 1
    is due there, barred, or free; `counts`, how many ones patterns put there.
    """

    def __init__(self, due, barred):
        self.patterns = {}
        self.spots = {}
        self.claims = []
        self.counts = []
        for letters in due:
            self._begin_with(letters, due[letters], barred[letters])

    def _begin_with(self, letters, due, barred):
        """Add a word, and a pattern that fits nowhere else, if it has points."""
        dotted = "." + letters + "."
        claims = [_FREE] * (len(dotted) + 1)
        for place in due:
            claims[place + 1] = _DUE
        for place in barred:
            claims[place + 1] = _BARRED
        word = len(self.claims)
        self.claims.append(claims)
        self.counts.append([0] * len(claims))
        for start in range(len(dotted)):
            for end in range(start + 1, len(dotted) + 1):
                self.spots.setdefault(dotted[start:end], []).append((word, start))
        if due:
            self.patterns[dotted] = [place + 1 for place in due]
            self._count(dotted, self.patterns[dotted], 1)

    def settled(self):
        """Take steps until none is left, and return the patterns, ascending."""
        # A step with one pattern can make room for one with an earlier pattern,
        # so only a round without any step shows that none is left.
        while self._round():
            pass
        return sorted([_written(signs, self.patterns[signs]) for signs in self.patterns])

    def _round(self):
        """Take all steps with each pattern in its turn; tell whether there was one."""
        moved = False
        for first in list(self.patterns):
            signs = first
            after = self._step(signs)
            while after != signs:
                moved = True
                signs = after
                after = self._step(signs)
        return moved

    def _step(self, signs):
        """Take a step with a pattern; return its signs then, none if it is left out."""
        if signs == "" or self._left_out(signs):
            return ""
        ones = self.patterns[signs]
        if self._replaced(signs, signs[1:], [at - 1 for at in ones if at > 0]):
            return signs[1:]
        if self._replaced(signs, signs[:-1], [at for at in ones if at < len(signs)]):
            return signs[:-1]
        return signs

    def _left_out(self, signs):
        """Leave a pattern out if no word misses it; tell whether it is left out."""
        ones = self.patterns[signs]
        self._count(signs, ones, -1)
        if not self._covered(signs, ones):
            self._count(signs, ones, 1)
            return False
        del self.patterns[signs]
        return True

    def _replaced(self, signs, shorter, ones):
        """Make a pattern shorter if all words keep their points; tell whether it is."""
        if shorter in ("", ".") or shorter in self.patterns or self._hits(shorter, ones):
            return False
        before = self.patterns[signs]
        self._count(signs, before, -1)
        self._count(shorter, ones, 1)
        if not self._covered(signs, before):
            self._count(shorter, ones, -1)
            self._count(signs, before, 1)
            return False
        del self.patterns[signs]
        self.patterns[shorter] = ones
        return True

    def _count(self, signs, ones, amount):
        """Add an amount to the count of each gap at which a pattern has a 1."""
        for word, start in self.spots[signs]:
            counts = self.counts[word]
            for at in ones:
                counts[start + at] += amount

    def _covered(self, signs, ones):
        """Tell whether all due gaps at which a pattern has, or had, a 1 have one now."""
        for word, start in self.spots[signs]:
            claims = self.claims[word]
            counts = self.counts[word]
            for at in ones:
                if claims[start + at] == _DUE and counts[start + at] == 0:
                    return False
        return True

    def _hits(self, signs, ones):
        """Tell whether a pattern has a 1 at a gap where it is barred."""
        for word, start in self.spots[signs]:
            claims = self.claims[word]
            for at in ones:
                if claims[start + at] == _BARRED:
                    return True
        return False


def _written(signs, ones):
    """Return a pattern as a string."""
    text = ""
    for at, sign in enumerate(signs):
        text += "1" + sign if at in ones else sign
    return text + "1" if len(signs) in ones else text

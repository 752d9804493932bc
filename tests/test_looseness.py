"""Numbers of lines: point 19.1."""

import random
import unittest

from galleypapers.breaking import best_breaks
from galleypapers.errors import BreakError
from galleypapers.looseness import by_lines
from tests.helper import call, slow_ways

END = ("penalty", 0, -10000, False)
COSTS = [(10, 100, 100), (0, 0, 0), (1, 50, 3000), (10, 100000, 0), (0, 0, 10 ** 8)]


def slow_by_lines(items, measure, tolerance, costs):
    """The least costs and breaks for each number of lines, among all breaks."""
    best = {}
    for breaks, _, cost in slow_ways(items, measure, tolerance, costs):
        if breaks[-1:] == [len(items) - 1]:
            best[len(breaks)] = min((cost, breaks), best.get(len(breaks), (cost, breaks)))
    return [(many, *best[many]) for many in sorted(best)]


class TestByLines(unittest.TestCase):
    def test_example(self):
        items = [("box", 40), ("glue", 10, 5, 3), ("box", 40), END]
        told = call(self, by_lines, items, 90, 9999, (0, 0, 0))
        self.assertEqual(told, [(1, 0, [3])])
        self.assertEqual((type(told), type(told[0]), type(told[0][2])), (list, tuple, list))

    def test_two_numbers_of_lines(self):
        items = [("box", 40), ("glue", 10, 5, 3), ("box", 40), END]
        # A line of 40 without stretch has the badness 10000.
        self.assertEqual(by_lines(items, 90, 10000, (5, 0, 0)), [(1, 25, [3]), (2, 2 * 10005 ** 2, [1, 3])])

    def test_no_breaks(self):
        for items in [[("box", 91), END], [("box", 40), ("penalty", 0, -10000, True), ("box", 91), END],
                      [("box", 91), ("glue", 1, 1, 1), ("box", 90), END]]:
            self.assertEqual(by_lines(items, 90, 10000, (1, 1, 1)), [])
        self.assertEqual(by_lines([("box", 40), END], 90, 9999, (1, 1, 1)), [])

    def test_one_item(self):
        # The badness is 10000, and the class 3 clashes with that of the beginning.
        self.assertEqual(by_lines([END], 10, 10000, (1, 1, 7)), [(1, 10001 ** 2 + 7, [0])])

    def test_the_least_list(self):
        glue = ("glue", 0, 0, 0)
        items = [("box", 5), glue, ("box", 5), glue, ("box", 5), glue, ("box", 5), END]
        # All lines of one, two or three words cost the same.
        self.assertEqual(by_lines(items, 100, 10000, (0, 0, 0)), [
            (1, 10 ** 8, [7]), (2, 2 * 10 ** 8, [1, 7]), (3, 3 * 10 ** 8, [1, 3, 7]), (4, 4 * 10 ** 8, [1, 3, 5, 7])])

    def test_random(self):
        chance = random.Random(5)
        many = 0
        for _ in range(900):
            items = [chance.choice([("box", chance.randint(0, 30)),
                                    ("glue", chance.randint(2, 6), chance.randint(0, 4), chance.randint(0, 2)),
                                    ("penalty", chance.randint(0, 4), chance.choice([-10000, -50, 0, 50, 10000]),
                                     chance.choice([True, False]))]) for _ in range(chance.randint(0, 9))]
            case = (items + [END], chance.choice([20, 30, 40]), chance.choice([0, 100, 1000, 10000]),
                    chance.choice(COSTS))
            told = call(self, by_lines, *case)
            self.assertEqual(told, slow_by_lines(*case))
            many += len(told) > 1
            try:
                cost, breaks, _ = best_breaks(*case)
                self.assertIn((len(breaks), cost, breaks), told)
                self.assertEqual(cost, min(row[1] for row in told))
            except BreakError:
                self.assertEqual(told, [])
        self.assertGreater(many, 50)

    def test_a_long_paragraph(self):
        items = [part for at in range(150) for part in [("box", 10 + at * 7 % 50), ("glue", 10, 5, 3)]]
        items = items[:-1] + [("penalty", 0, 10000, False), ("glue", 0, 100000, 0), END]
        told = by_lines(items, 300, 10000, (10, 100, 100))
        cost, breaks, _ = best_breaks(items, 300, 10000, (10, 100, 100))
        self.assertIn((len(breaks), cost, breaks), told)
        self.assertEqual([row[0] for row in told], list(range(told[0][0], told[-1][0] + 1)))
        self.assertGreater(len(told), 50)


if __name__ == "__main__":
    unittest.main()

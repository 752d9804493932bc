"""Lines, best breaks and their papers: points 7.1 to 7.8 and 0.2."""

import itertools
import random
import unittest

from galleypapers.breaking import best_breaks, cost_of, judge, paper_of
from galleypapers.errors import BreakError
from tests.helper import call, fault, slow_breaks, slow_cost, slow_line, slow_states

END = ("penalty", 0, -10000, False)
FILL = [("penalty", 0, 10000, False), ("glue", 0, 100000, 0), END]
EXAMPLE = [("box", 40), ("glue", 10, 5, 3), ("box", 40), ("glue", 10, 5, 3), ("box", 45), *FILL]
PLAIN = (0, 0, 0)


def pen(cost, wide=0, flagged=False):
    return ("penalty", wide, cost, flagged)


def one_line(wide, stretch, shrink):
    """Boxes of together 20 with glue between them at which no line ends."""
    return [("box", 20), pen(10000), ("glue", wide, stretch, shrink), END]


def costly(items, measure, breaks, tolerance=10000, costs=PLAIN):
    """The cost of breaks, by the slow way too."""
    told = cost_of(items, measure, tolerance, costs, breaks)
    assert told == slow_cost(items, measure, tolerance, costs, breaks)
    return told


def some_items(chance, most):
    """Items of all kinds in any order, with a penalty at which the last line must end."""
    items = []
    for _ in range(chance.randint(0, most)):
        kind = chance.choice(["box", "box", "box", "glue", "glue", "glue", "penalty", "penalty"])
        if kind == "box":
            items.append(("box", chance.choice([0, 1, 2, 3, 4, 6])))
        elif kind == "glue":
            wide = chance.choice([0, 1, 1, 2, 3])
            items.append(("glue", wide, chance.choice([0, 0, 1, 2, 3]), chance.randint(0, wide)))
        else:
            cost = chance.choice([0, 0, 3, -3, 50, 9999, 10000, -9999, -10000])
            items.append(pen(cost, chance.choice([0, 0, 1, 2]), chance.random() < 0.5))
    return items + [pen(-10000, chance.choice([0, 0, 1]), chance.random() < 0.3)]


def some_task(chance, most=9):
    """Items with a measure, a tolerance and costs."""
    costs = tuple(chance.choice([0, 1, 5, 100]) for _ in range(3))
    return some_items(chance, most), chance.randint(0, 12), chance.choice([0, 12, 99, 100, 3000, 9999, 10000]), costs


class TestExamples(unittest.TestCase):
    def test_example(self):
        cost, breaks, states = call(self, best_breaks, EXAMPLE, 90, 200, (10, 100, 100))
        self.assertEqual((cost, breaks), (200, [3, 7]))
        self.assertEqual(states, {(-1, 1): 0, (3, 1): 100, (7, 1): 200})
        self.assertEqual(cost_of(EXAMPLE, 90, 200, (10, 100, 100), [3, 7]), 200)
        breaks, rows = call(self, paper_of, EXAMPLE, 90, 200, (10, 100, 100))
        self.assertEqual((breaks, rows), ([3, 7], [(-1, 1, 0), (3, 1, 100), (7, 1, 200)]))
        self.assertIs(call(self, judge, EXAMPLE, 90, 200, (10, 100, 100), breaks, rows), True)

    def test_kinds_of_values(self):
        answer = best_breaks(EXAMPLE, 90, 200, (10, 100, 100))
        self.assertEqual([type(part) for part in answer], [int, list, dict])
        self.assertIs(type(answer), tuple)
        answer = paper_of(EXAMPLE, 90, 200, (10, 100, 100))
        self.assertEqual([type(part) for part in answer], [list, list])
        self.assertEqual({type(row) for row in answer[1]}, {tuple})

    def test_more_parts_are_not_looked_at(self):
        longer = [(*item, [], "more") if item[0] != "glue" else item for item in EXAMPLE]
        self.assertEqual(best_breaks(longer, 90, 200, (10, 100, 100))[:2], (200, [3, 7]))


class TestPlacesOfBreaks(unittest.TestCase):
    """Point 7.2."""

    def test_penalties(self):
        for cost, told in [(0, 10000 ** 2 * 2), (9999, 10000 ** 2 * 2 + 9999 ** 2), (-9999, 10000 ** 2 * 2 - 9999 ** 2),
                           (10000, None), (-10000, 10000 ** 2 * 2)]:
            with self.subTest(cost):
                items = [("box", 4), pen(cost), ("box", 4), END]
                self.assertEqual(costly(items, 9, [1, 3]), told)

    def test_a_line_must_end(self):
        items = [("box", 4), pen(-10000), ("box", 4), END]
        self.assertIsNone(costly(items, 8, [3]))
        self.assertEqual(costly(items, 8, [1, 3]), 10000 ** 2 * 2)
        self.assertEqual(best_breaks(items, 8, 10000, PLAIN)[1], [1, 3])
        items[1] = pen(-9999)
        self.assertEqual(costly(items, 8, [3]), 0)

    def test_glue(self):
        box, glue = ("box", 1), ("glue", 1, 1, 0)
        items = [glue, box, glue, glue, pen(5), glue, box, glue, END]
        ends = [at for at in range(8) if costly(items, 99, [at, 8], 10000) is not None]
        self.assertEqual(ends, [2, 4, 7])

    def test_boxes_and_other_lists(self):
        for breaks in [[], [0], [7, 7], [3, 3, 7], [7, 3], [3], [0, 7], [-1, 7], [3, 8], [7, 8], [8], [-1], [-2, 3, 7],
                       [3, 5, 7], [100, 7], [-5, 7], [3, 7, 3, 7]]:
            with self.subTest(breaks):
                self.assertIsNone(call(self, cost_of, EXAMPLE, 90, 10000, PLAIN, breaks))
        self.assertIsNotNone(cost_of(EXAMPLE, 90, 10000, PLAIN, [3, 7]))
        self.assertIsNotNone(cost_of(EXAMPLE, 90, 10000, PLAIN, [1, 3, 7]))


class TestLines(unittest.TestCase):
    """Points 7.3 and 7.4."""

    def exact(self, items, at, wide, before=()):
        """The line up to a break has just this width."""
        for measure in range(wide - 3, wide + 4):
            told = costly(items, measure, [*before, at, len(items) - 1], 10000)
            first = slow_line(items, measure, 10000, PLAIN, before[-1] if before else -1, at)
            self.assertEqual(first is not None and first[1] == 0, measure == wide)
            if told is not None:
                self.assertGreaterEqual(measure, wide)

    def test_widths(self):
        more = [("box", 1), END]
        self.exact([("box", 4), ("glue", 3, 0, 0), ("box", 5), pen(0, 2), *more], 3, 14)
        self.exact([("box", 4), ("glue", 3, 0, 0), ("box", 5), ("glue", 7, 9, 9), *more], 3, 12)
        # A penalty within a line has no width, one at its end has.
        self.exact([("box", 4), pen(0, 7), ("box", 5), pen(0, 2), *more], 3, 11)
        # What stands ahead of the first box falls away, also in the first line.
        self.exact([("glue", 3, 5, 2), pen(0, 8), ("glue", 9, 5, 2), ("box", 4), pen(0, 2), *more], 4, 6)
        self.exact([("box", 3), pen(0), ("glue", 3, 5, 2), pen(9, 8), ("box", 4), pen(0, 2), *more], 5, 6, [1])
        self.exact([("box", 3), ("glue", 3, 5, 2), ("glue", 3, 5, 2), pen(9, 8), ("box", 4), pen(0, 2), *more], 5, 6,
                   [1])

    def test_empty_lines(self):
        # An item at the end of a line does not fall away, the ones ahead of it do.
        items = [("box", 3), pen(0), ("glue", 5, 5, 5), pen(0, 4), ("box", 3), END]
        self.exact(items, 3, 4, [1])
        items = [("glue", 5, 5, 5), pen(0, 4), ("box", 3), END]
        self.exact(items, 1, 4)
        items = [("glue", 5, 5, 5), pen(-10000, 4), ("glue", 2, 2, 2), END]
        self.assertEqual(costly(items, 4, [1, 3], 10000), 10000 ** 2)
        self.assertIsNone(costly(items, 3, [1, 3], 10000))
        self.assertEqual(best_breaks([END], 0, 0, PLAIN)[:2], (0, [0]))
        self.assertEqual(best_breaks([END], 5, 10000, PLAIN)[:2], (10000 ** 2, [0]))
        self.assertEqual(fault(self, BreakError, best_breaks, [END], 5, 9999, PLAIN).at, -1)

    def test_glue_falls_away_up_to_a_forced_end(self):
        # The glue behind the second forced end is not in the line between the two.
        items = [("box", 2), pen(-10000), ("glue", 1, 1, 1), pen(-10000), ("glue", 1, 1, 1), ("box", 2), END]
        self.assertEqual(best_breaks(items, 2, 10000, PLAIN)[:2], (10000 ** 2, [1, 3, 6]))
        self.assertEqual(costly(items, 2, [1, 3, 6]), 10000 ** 2)
        self.assertIsNone(costly(items, 2, [1, 6]))

    def test_badness(self):
        # (width, stretch, shrink) of the glue in a line, the measure, and the badness or None.
        for glue, measure, bad in [
                ((10, 10, 10), 30, 0), ((10, 10, 10), 40, 100), ((10, 10, 10), 39, 72), ((10, 10, 10), 35, 12),
                ((10, 10, 10), 41, 133), ((10, 10, 10), 25, 12), ((10, 10, 10), 20, 100), ((10, 10, 10), 19, None),
                ((10, 0, 0), 30, 0), ((10, 0, 0), 31, 10000), ((10, 0, 0), 29, None), ((10, 0, 1), 29, 100),
                ((10, 1, 0), 34, 6400), ((10, 1, 0), 35, 10000), ((10, 1, 0), 99, 10000), ((10, 3, 7), 28, 2),
                ((10, 7, 3), 28, 29), ((10, 7, 3), 32, 2), ((10, 3, 7), 32, 29), ((10, 100000, 0), 31, 0)]:
            items = one_line(*glue)
            with self.subTest((glue, measure)):
                told = costly(items, measure, [3], 10000)
                self.assertEqual(told, None if bad is None else bad ** 2)
                if bad is not None:
                    self.assertEqual(costly(items, measure, [3], 10000, (7, 0, 0)), (bad + 7) ** 2)
                    limit = 0 if measure < 30 else bad
                    self.assertEqual(costly(items, measure, [3], limit), bad ** 2)
                    if measure > 30 and bad > 0:
                        self.assertIsNone(costly(items, measure, [3], bad - 1))

    def test_glue_of_the_line_alone(self):
        # The glue at which a line begins or ends does not stretch it, nor does that of other lines.
        items = [("box", 28), ("glue", 5, 90, 5), ("box", 10), ("glue", 6, 2, 1), ("box", 10), ("glue", 5, 90, 5), END]
        self.assertEqual(costly(items, 28, [1, 5, 6]), 0 + 100 ** 2 + 10000 ** 2)
        self.assertEqual(costly(items, 26, [1, 5, 6]), None)
        items[0] = ("box", 25)
        self.assertEqual(costly(items, 25, [1, 5, 6]), 0 + 100 ** 2 + 10000 ** 2)
        self.assertEqual(costly(items, 24, [1, 5, 6]), None)

    def test_large_numbers(self):
        wide = 10 ** 30
        items = [("box", wide), ("glue", wide, 2 * wide, wide), ("box", wide), END]
        self.assertEqual(costly(items, 4 * wide, [3]), 12 ** 2)
        self.assertEqual(costly(items, 2 * wide, [3], 0), 100 ** 2)
        self.assertIsNone(costly(items, 2 * wide - 1, [3]))


class TestCosts(unittest.TestCase):
    """Points 7.5 and 7.6."""

    def test_classes(self):
        # (stretch, shrink) of the glue in a line of the width 30, and the measure.
        for stretch, shrink, measure, kind in [
                (10, 10, 30, 1), (10, 10, 35, 1), (10, 10, 36, 2), (10, 10, 39, 2), (10, 10, 40, 3), (10, 10, 25, 1),
                (10, 10, 24, 0), (10, 10, 20, 0), (10, 0, 60, 3), (0, 0, 31, 3), (0, 0, 30, 1), (100, 0, 80, 1),
                (100, 0, 81, 2), (1000, 0, 1027, 2), (1000, 0, 1030, 3)]:
            items = one_line(10, stretch, shrink)
            with self.subTest((stretch, shrink, measure)):
                self.assertEqual(set(best_breaks(items, measure, 10000, PLAIN)[2]), {(-1, 1), (3, kind)})

    def test_clashes(self):
        # A glue for each class that gives the line this class at the measure 28, and the badness.
        lines = [((12, 0, 5), 51), ((8, 0, 0), 0), ((4, 5, 0), 51), ((4, 1, 0), 6400)]
        for first, second in itertools.product(range(4), repeat=2):
            items = one_line(*lines[first][0]) + one_line(*lines[second][0])
            with self.subTest((first, second)):
                self.assertEqual(set(best_breaks(items, 28, 10000, PLAIN)[2]), {(-1, 1), (3, first), (7, second)})
                clashes = (abs(first - 1) > 1) + (abs(first - second) > 1)
                told = costly(items, 28, [3, 7], 10000, (0, 0, 1000003))
                self.assertEqual(told, lines[first][1] ** 2 + lines[second][1] ** 2 + 1000003 * clashes)

    def test_penalties(self):
        for cost, added in [(0, 0), (7, 49), (-7, -49), (9999, 9999 ** 2), (-9999, -9999 ** 2), (-10000, 0)]:
            items = [("box", 4), pen(cost), ("box", 4), END]
            with self.subTest(cost):
                self.assertEqual(costly(items, 4, [1, 3], 0), added)
                self.assertEqual(costly(items, 4, [1, 3], 0, (3, 0, 0)), 9 + 9 + added)

    def test_a_glue_adds_nothing(self):
        items = [("box", 4), ("glue", 2, 2, 2), ("box", 4), END]
        self.assertEqual(costly(items, 4, [1, 3], 0, (3, 5, 7)), 18)

    def test_flagged_breaks(self):
        for flags in itertools.product([False, True], repeat=3):
            items = []
            for flagged in flags:
                items += [("box", 4), pen(-10000, 0, flagged)]
            doubles = (flags[0] and flags[1]) + (flags[1] and flags[2])
            self.assertEqual(costly(items, 4, [1, 3, 5], 0, (0, 11, 0)), 11 * doubles)
        # A line between the two keeps them apart.
        items = [("box", 4), pen(0, 0, True), ("box", 4), ("glue", 1, 0, 0), ("box", 4), pen(0, 0, True), ("box", 4), END]
        self.assertEqual(costly(items, 4, [1, 3, 5, 7], 0, (0, 11, 0)), 0)


class TestBest(unittest.TestCase):
    """Point 7.7."""

    def test_fewest_lines(self):
        # Each of the penalties can be a line for itself that costs nothing.
        items = [pen(0, 4), pen(0, 4), pen(0, 4), pen(-10000, 4)]
        self.assertEqual(best_breaks(items, 4, 0, PLAIN)[:2], (0, [3]))
        # The cost counts ahead of the number of lines.
        items = [pen(-1, 4), pen(-1, 4), pen(-1, 4), pen(-10000, 4)]
        self.assertEqual(best_breaks(items, 4, 0, PLAIN)[:2], (-3, [0, 1, 2, 3]))
        items = [pen(-1, 4), pen(1, 4), pen(0, 4), pen(-10000, 4)]
        self.assertEqual(best_breaks(items, 4, 0, PLAIN)[:2], (-1, [0, 3]))

    def test_the_least_list(self):
        # The first line can end in three ways at the same cost.
        items = [("box", 4), pen(0), pen(0), pen(0), ("box", 4), END]
        self.assertEqual(best_breaks(items, 4, 10000, PLAIN)[:2], (0, [1, 5]))
        # The least list of those with the fewest lines, not of all.
        items = [pen(0, 4), ("box", 4), pen(0), pen(0), ("box", 4), END]
        self.assertEqual(best_breaks(items, 4, 0, PLAIN)[:2], (0, [2, 5]))
        # A first break that is cheap in itself, but not the one of the best breaks.
        items = [("box", 4), pen(0), pen(-3), pen(-3), ("box", 4), END]
        self.assertEqual(best_breaks(items, 4, 9999, PLAIN)[:2], (-9, [2, 5]))

    def test_the_least_list_with_a_later_second_break(self):
        # [1, 7, 9] and [3, 5, 9] alone are feasible, though the line up to 9 begins sooner in the second.
        items = [("box", 2), pen(0, 8), ("box", 3), pen(0, 5), ("box", 4), pen(0, 6), ("box", 0), pen(0, 3), ("box", 10),
                 END]
        self.assertEqual(slow_breaks(items, 10, 0, PLAIN), (0, [1, 7, 9]))
        self.assertEqual(best_breaks(items, 10, 0, PLAIN)[:2], (0, [1, 7, 9]))
        self.assertEqual(costly(items, 10, [3, 5, 9], 0), 0)
        items[1] = pen(1, 8)
        self.assertEqual(best_breaks(items, 10, 0, PLAIN)[:2], (0, [3, 5, 9]))

    def test_no_breaks(self):
        box, glue = ("box", 4), ("glue", 1, 0, 0)
        for items, measure, tolerance, at in [
                ([box, END], 3, 10000, -1), ([box, END], 5, 9999, -1), ([box, glue, box, END], 4, 0, None),
                ([box, glue, ("box", 5), END], 4, 10000, 1), ([box, glue, box, glue, ("box", 5), END], 4, 10000, 3),
                ([box, glue, box, glue, ("box", 3), END], 4, 0, 3), ([box, glue, box, pen(-10000), END], 5, 9999, -1),
                ([("box", 3), pen(10000), END], 4, 9999, -1), ([box, pen(10000), glue, box, END], 4, 10000, -1)]:
            with self.subTest((items, measure)):
                if at is None:
                    self.assertEqual(best_breaks(items, measure, tolerance, PLAIN)[0], 0)
                else:
                    self.assertEqual(fault(self, BreakError, best_breaks, items, measure, tolerance, PLAIN).at, at)
                    self.assertEqual(fault(self, BreakError, paper_of, items, measure, tolerance, PLAIN).at, at)

    def test_ends_that_lead_nowhere(self):
        # Lines lead up to the item 3, but no line behind it or behind the item 1 is feasible.
        items = [("box", 2), ("glue", 2, 0, 0), ("box", 2), ("glue", 2, 0, 0), ("box", 9), ("glue", 2, 0, 0), END]
        self.assertEqual(fault(self, BreakError, best_breaks, items, 6, 10000, PLAIN).at, 3)

    def test_many(self):
        chance = random.Random(4)
        found = {"broken": 0, "not": 0}
        for _ in range(4000):
            items, measure, tolerance, costs = some_task(chance)
            states = slow_states(items, measure, tolerance, costs)
            best = slow_breaks(items, measure, tolerance, costs)
            if best is None:
                error = fault(self, BreakError, best_breaks, items, measure, tolerance, costs)
                self.assertEqual(error.at, max(at for at, _ in states))
                found["not"] += 1
            else:
                told = call(self, best_breaks, items, measure, tolerance, costs)
                self.assertEqual(told, (*best, states), (items, measure, tolerance, costs))
                found["broken"] += 1
        self.assertGreater(min(found.values()), 500)

    def test_many_equal_ones(self):
        chance = random.Random(5)
        for _ in range(600):
            kinds = [pen(0, 2), pen(0, 2), pen(0, 2, True), ("box", 0), ("box", 2), ("glue", 0, 0, 0), ("box", 1),
                     pen(1, 2), pen(-1, 1)]
            items = [chance.choice(kinds) for _ in range(chance.randint(3, 10))] + [pen(-10000, 2)]
            task = (items, 2, chance.choice([0, 10000]), chance.choice([PLAIN, (1, 1, 1)]))
            best = slow_breaks(*task)
            if best is not None:
                self.assertEqual(best_breaks(*task)[:2], best, task)

    def test_costs_of_any_lists(self):
        chance = random.Random(6)
        found = 0
        for _ in range(3000):
            task = some_task(chance)
            last = len(task[0]) - 1
            breaks = sorted(chance.sample(range(last + 1), chance.randint(0, last + 1)))
            if chance.random() < 0.7 and last not in breaks:
                breaks.append(last)
            if chance.random() < 0.1:
                breaks.insert(chance.randint(0, len(breaks)), chance.randint(-3, last + 3))
            told = call(self, cost_of, *task, breaks)
            self.assertEqual(told, slow_cost(*task, breaks), (task, breaks))
            found += told is not None
        self.assertGreater(found, 100)

    def test_two_thousand_items(self):
        items = [("box", 20)]
        chance = random.Random(7)
        while len(items) < 1996:
            items += [("box", chance.randint(10, 60)), ("glue", 10, 5, 3)]
        items = items[:1997] + [pen(10000), ("glue", 0, 10000000, 0), END]
        for measure in [400, 10 ** 7]:
            breaks, rows = paper_of(items, measure, 10000, (10, 3000, 3000))
            self.assertTrue(judge(items, measure, 10000, (10, 3000, 3000), breaks, rows))
        self.assertEqual(breaks, [1999])


class TestPapers(unittest.TestCase):
    """Point 7.8."""

    ITEMS = [("box", 4), ("glue", 2, 1, 1), ("box", 4), ("glue", 2, 1, 1), ("box", 4), END]

    def judged(self, rows, breaks=(1, 5), items=None):
        task = (items or self.ITEMS, 11, 10000, (0, 0, 7))
        told = call(self, judge, *task, list(breaks), rows)
        self.assertIs(told, slow_judge(*task, list(breaks), rows))
        return told

    def right_rows(self):
        return paper_of(self.ITEMS, 11, 10000, (0, 0, 7))[1]

    def test_papers_are_right(self):
        breaks, rows = paper_of(self.ITEMS, 11, 10000, (0, 0, 7))
        self.assertEqual(breaks, best_breaks(self.ITEMS, 11, 10000, (0, 0, 7))[1])
        self.assertTrue(self.judged(rows, breaks))
        for order in itertools.permutations(rows):
            self.assertTrue(self.judged(list(order), breaks))

    def test_each_row_is_needed(self):
        breaks = best_breaks(self.ITEMS, 11, 10000, (0, 0, 7))[1]
        rows = self.right_rows()
        for at in range(len(rows)):
            self.assertFalse(self.judged(rows[:at] + rows[at + 1:], breaks))
            # Twice the same break and class, with the same cost or another one.
            for cost in (0, 1, -1):
                again = (*rows[at][:2], rows[at][2] + cost)
                self.assertFalse(self.judged(rows + [again], breaks))
        self.assertFalse(self.judged([], breaks))

    def test_each_cost_is_a_bound(self):
        breaks = best_breaks(self.ITEMS, 11, 10000, (0, 0, 7))[1]
        rows = self.right_rows()
        for at in range(len(rows)):
            dearer = [*rows]
            dearer[at] = (*rows[at][:2], rows[at][2] + 1)
            self.assertFalse(self.judged(dearer, breaks), at)
        # All lower by the same amount is right as well: the difference counts.
        self.assertTrue(self.judged([(at, kind, cost - 5) for at, kind, cost in rows], breaks))
        self.assertFalse(self.judged([(at, kind, cost + 5) for at, kind, cost in rows], breaks))

    def test_other_breaks(self):
        rows = self.right_rows()
        least = best_breaks(self.ITEMS, 11, 10000, (0, 0, 7))[0]
        for many in range(7):
            for breaks in itertools.combinations(range(6), many):
                cost = cost_of(self.ITEMS, 11, 10000, (0, 0, 7), list(breaks))
                self.assertEqual(self.judged(rows, breaks), cost == least)
        for breaks in [(5, 5), (6,), (-1, 5), (-1,), (3, 1, 5), (1, 5, 6)]:
            self.assertFalse(self.judged(rows, breaks))

    def test_breaks_that_are_not_the_best(self):
        items = [("box", 4), pen(0), ("box", 4), pen(5), ("box", 4), END]
        breaks, rows = paper_of(items, 8, 10000, PLAIN)
        self.assertEqual(breaks, [1, 5])
        self.assertTrue(judge(items, 8, 10000, PLAIN, [1, 5], rows))
        self.assertFalse(judge(items, 8, 10000, PLAIN, [3, 5], rows))
        self.assertFalse(judge(items, 8, 10000, PLAIN, [1, 3, 5], rows))

    def test_breaks_of_the_least_cost_that_are_not_the_best(self):
        items = [("box", 4), pen(0), ("box", 4), pen(0), ("box", 4), END]
        breaks, rows = paper_of(items, 8, 10000, PLAIN)
        self.assertEqual(breaks, [1, 5])
        self.assertTrue(judge(items, 8, 10000, PLAIN, [3, 5], rows))

    def test_no_such_breaks_and_classes(self):
        breaks = best_breaks(self.ITEMS, 11, 10000, (0, 0, 7))[1]
        rows = self.right_rows()
        for row in [(-2, 1, 0), (6, 1, 0), (100, 1, 0), (1, 4, 0), (1, -1, 0), (-1, 4, 0), (5, 9, 0)]:
            with self.subTest(row):
                self.assertFalse(self.judged(rows + [row], breaks))
        # Cheap rows for other classes at the beginning and at the end.
        self.assertTrue(self.judged(rows + [(5, 0, 10 ** 12)], breaks))
        self.assertFalse(self.judged(rows + [(5, 0, 0)], breaks))
        self.assertFalse(self.judged(rows + [(-1, 0, 0 - 10 ** 12)], breaks))
        self.assertTrue(self.judged(rows + [(-1, 0, 10 ** 12)], breaks))

    def test_rows_behind_any_item(self):
        # Lines can begin behind a box, and rows for what they lead to are asked for.
        items = [("box", 4), ("glue", 2, 0, 0), ("box", 4), ("glue", 3, 0, 0), ("box", 4), END]
        breaks, rows = paper_of(items, 10, 10000, PLAIN)
        for at in (0, 2, 4):
            for kind in range(4):
                with self.subTest((at, kind)):
                    self.assertTrue(judge(items, 10, 10000, PLAIN, breaks, rows + [(at, kind, 10 ** 12)]))
                    self.assertFalse(judge(items, 10, 10000, PLAIN, breaks, rows + [(at, kind, -10 ** 12)]))

    def test_an_empty_line_behind_a_box(self):
        # Behind the box 0 the glue 1 ends a line at once; it is empty and of the class 3.
        items = [("box", 4), ("glue", 2, 0, 0), ("box", 4), END]
        rows = [(-1, 1, 0), (1, 1, 0), (3, 1, 0)]
        self.assertTrue(judge(items, 4, 10000, PLAIN, [1, 3], rows))
        self.assertFalse(judge(items, 4, 10000, PLAIN, [1, 3], rows + [(0, 1, 0)]))
        self.assertTrue(judge(items, 4, 9999, PLAIN, [1, 3], rows + [(0, 1, 0)]))
        self.assertTrue(judge(items, 4, 10000, PLAIN, [1, 3], rows + [(0, 1, 0), (1, 3, 10000 ** 2)]))
        self.assertFalse(judge(items, 4, 10000, PLAIN, [1, 3], rows + [(0, 1, 0), (1, 3, 10000 ** 2 + 1)]))

    def test_a_beginning_below_zero(self):
        items = [("box", 4), END]
        self.assertTrue(judge(items, 4, 0, PLAIN, [1], [(-1, 1, 0), (1, 1, 0)]))
        self.assertTrue(judge(items, 4, 0, PLAIN, [1], [(-1, 1, -3), (1, 1, -3)]))
        self.assertFalse(judge(items, 4, 0, PLAIN, [1], [(-1, 1, 1), (1, 1, 1)]))
        self.assertFalse(judge(items, 4, 0, PLAIN, [1], [(-1, 1, -3), (1, 1, -4)]))
        self.assertFalse(judge(items, 4, 0, PLAIN, [1], [(-1, 1, 0), (1, 1, 1)]))
        self.assertFalse(judge(items, 4, 0, PLAIN, [1], [(-1, 1, 0)]))
        self.assertFalse(judge(items, 4, 0, PLAIN, [1], [(1, 1, 0)]))
        # No line ends at the last item: there is nothing to compare with.
        self.assertFalse(judge(items, 3, 10000, PLAIN, [1], [(-1, 1, 0)]))

    def test_the_least_row_at_the_end_counts(self):
        items = [("box", 4), END]
        self.assertFalse(judge(items, 4, 0, PLAIN, [1], [(-1, 1, 0), (1, 1, 0), (1, 3, -1)]))
        self.assertTrue(judge(items, 4, 0, PLAIN, [1], [(-1, 1, 0), (1, 1, 0), (1, 3, 1)]))

    def test_flagged_breaks_count_behind_a_row(self):
        items = [("box", 4), pen(0, 0, True), ("box", 4), pen(-10000, 0, True)]
        breaks, rows = paper_of(items, 4, 0, (0, 9, 0))
        self.assertEqual(rows, [(-1, 1, 0), (1, 1, 0), (3, 1, 9)])
        self.assertTrue(judge(items, 4, 0, (0, 9, 0), breaks, rows))
        self.assertFalse(judge(items, 4, 0, (0, 8, 0), breaks, rows))

    def test_many(self):
        chance = random.Random(8)
        found = {True: 0, False: 0}
        for _ in range(2500):
            task = some_task(chance, 7)
            if slow_breaks(*task) is None:
                continue
            breaks, rows = call(self, paper_of, *task)
            self.assertEqual(breaks, slow_breaks(*task)[1])
            self.assertTrue(judge(*task, breaks, rows))
            self.assertTrue(slow_judge(*task, breaks, rows))
            breaks, rows = changed(chance, task, breaks, rows)
            told = call(self, judge, *task, breaks, rows)
            self.assertIs(told, slow_judge(*task, breaks, rows), (task, breaks, rows))
            found[told] += 1
            if told:
                self.assertEqual(cost_of(*task, breaks), slow_breaks(*task)[0])
        self.assertGreater(min(found.values()), 150)


def changed(chance, task, breaks, rows):
    """Breaks and a paper that are changed a little, so that they may be wrong."""
    last = len(task[0]) - 1
    rows = list(rows)
    way = chance.randint(0, 6)
    at = chance.randrange(len(rows))
    if way == 0:
        rows[at] = (*rows[at][:2], rows[at][2] + chance.choice([-1, 1, -100, 100]))
    elif way == 1:
        del rows[at]
    elif way == 2:
        amount = chance.choice([-7, 7])
        rows = [(row[0], row[1], row[2] + amount) for row in rows]
    elif way == 3:
        rows.append((chance.randint(-2, last + 1), chance.randint(-1, 4), chance.choice([-10 ** 13, 0, 10 ** 13])))
    elif way == 4:
        breaks = sorted(chance.sample(range(last), chance.randint(0, last))) + [last]
    elif way == 5:
        chance.shuffle(rows)
    else:
        rows[at] = (rows[at][0], chance.randint(0, 3), rows[at][2])
    return breaks, rows


def slow_judge(items, measure, tolerance, costs, breaks, rows):
    """Tell whether a paper is right, by trying all lines behind all rows."""
    told = {}
    for at, kind, cost in rows:
        if (at, kind) in told or not -1 <= at < len(items) or not 0 <= kind <= 3:
            return False
        told[at, kind] = cost
    if (-1, 1) not in told or told[-1, 1] > 0:
        return False
    for (before, kind), cost in told.items():
        for at in range(len(items)):
            line = slow_line(items, measure, tolerance, costs, before, at, kind)
            if line is not None and told.get((at, line[0]), 10 ** 30) > cost + line[1]:
                return False
    own = slow_cost(items, measure, tolerance, costs, breaks)
    least = min([cost for (at, _), cost in told.items() if at == len(items) - 1], default=-10 ** 30)
    return own is not None and own <= least - told[-1, 1]


if __name__ == "__main__":
    unittest.main()

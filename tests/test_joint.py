"""Lines and pages together: points 20.1 to 20.3."""

import random
import unittest

from galleypapers.errors import PageError
from galleypapers.joint import best_choices, paper, paper_right
from galleypapers.paging import best_pages, total_cost
from tests.helper import call, fault
from tests.slow_joint import choices, counts, cost_up_to, matter_of, slow_paper, slow_right

GAPS = {"para": (2, 2, 1), "item": (1, 0, 0), "above": (5, 4, 2), "below": (3, 0, 0), "note": (4, 0, 0),
        "float": (3, 3, 2)}
COSTS = {"widow": 150, "orphan": 100, "hyphen": 50, "head": 5, "late": 30}


def flow_with(**parts):
    whole = {"leading": 10, "least": 1, "gaps": GAPS, "costs": COSTS, "height": 30, "most": 1, "notes": 20, "keep": 1}
    whole.update(parts)
    return ("flow", *whole.values())


FLOW = flow_with()


def lines(many, notes=(), hyphenated=False):
    """Lines that are 7 high and 2 deep; the notes stand on the first one."""
    return [(7, 2, tuple(notes) if at == 0 else (), hyphenated) for at in range(many)]


def block(*variants, kind="para"):
    """A block with variants (cost, number of lines)."""
    return (kind, [(cost, lines(many)) for cost, many in variants])


def some_case(chance, most=5):
    """Random blocks, notes and floats, and a flow."""
    blocks = []
    notes = []
    floats = []
    for _ in range(chance.randint(0, most)):
        kind = chance.choice(["head", "para", "para", "para", "item", "row", "float", "page"])
        if kind == "float":
            floats.append(chance.choice([0, 5, 12]))
        if kind in ("float", "page"):
            blocks.append((kind,))
            continue
        mine = []
        if chance.random() < .3:
            mine.append(len(notes))
            notes.append(chance.choice([0, 3, 8, 15]))
        variants = []
        for _ in range(1 if kind in ("head", "row") else chance.choice([1, 2, 2, 3])):
            many = chance.randint(1, 4)
            of_note = chance.randrange(many)
            variants.append((chance.choice([0, 3, 40, 400]), [
                (chance.choice([5, 7, 7, 9]), chance.choice([0, 2, 2, 6]), tuple(mine) if at == of_note else (),
                 chance.random() < .3) for at in range(many)]))
        blocks.append((kind, variants))
    costs = {name: chance.choice([0, 30, 150, 9999, 10000]) for name in COSTS}
    flow = flow_with(height=chance.choice([20, 35, 50]), most=chance.choice([0, 1, 1, 2]), keep=chance.choice([1, 1, 2]),
                     notes=chance.choice([10, 30]), costs=chance.choice([costs, COSTS]))
    return blocks, notes, floats, flow


def some_cases(many, seed, most):
    """Random cases without too many choices."""
    chance = random.Random(seed)
    found = []
    while len(found) < many:
        case = some_case(chance)
        if len(choices(case[0])) <= most:
            found.append(case)
    return found


CASES = some_cases(200, 1, 12)


class TestChoices(unittest.TestCase):
    """Points 20.1 and 20.2."""

    def best(self, *blocks, notes=(), floats=(), flow=FLOW):
        told = call(self, best_choices, list(blocks), list(notes), list(floats), flow)
        self.assertEqual((type(told), type(told[1])), (tuple, list))
        return told

    def wrong(self, *blocks, notes=(), floats=(), flow=FLOW):
        return fault(self, PageError, best_choices, list(blocks), list(notes), list(floats), flow).at

    def test_the_least_variant_if_all_fit(self):
        self.assertEqual(self.best(block((5, 2), (3, 1), (4, 3))), (3, [1]))
        self.assertEqual(self.best(block((5, 1), (7, 2)), block((2, 1), (1, 1))), (6, [0, 1]))
        self.assertEqual(self.best(block((0, 1))), (0, [0]))

    def test_a_dearer_variant_for_better_pages(self):
        flow = flow_with(height=29, keep=2)
        # Three lines fill a page of 29; two of them leave it too low, which costs 10000.
        self.assertEqual(self.best(block((0, 2), (70, 3)), ("page",), block((0, 1)), flow=flow), (70, [1, 0]))
        self.assertEqual(self.best(block((0, 2), (20000, 3)), ("page",), block((0, 1)), flow=flow), (10000, [0, 0]))
        # Four lines do not fit on it, and with two to keep they are parted in the middle.
        self.assertEqual(self.best(block((0, 4), (70, 3)), ("page",), block((0, 1)), flow=flow), (70, [1, 0]))

    def test_nothing(self):
        self.assertEqual(self.best(), (0, []))
        self.assertEqual(self.best(("page",)), (0, []))
        self.assertEqual(self.best(("float",), ("page",), floats=[30 - 3]), (0, []))
        self.assertEqual(self.wrong(("float",), floats=[40]), 0)
        self.assertEqual(self.wrong(("float",), floats=[4], flow=flow_with(most=0)), 0)

    def test_errors(self):
        self.assertEqual(self.wrong(block((0, 1), kind="head"), block((0, 1)), flow=flow_with(height=15)), 0)
        self.assertEqual(self.wrong(block((0, 9)), flow=flow_with(height=8)), 0)
        self.assertEqual(self.wrong(block((0, 3), (0, 4), kind="row"), block((0, 1)), flow=flow_with(height=15)), 0)
        self.assertEqual(self.wrong(block((0, 1)), block((0, 1)), block((0, 5), kind="row")), 2)
        # A page can begin within the block, and then none.
        self.assertEqual(self.wrong(block((0, 1)), ("para", [(0, [(7, 2, (), False), (70, 2, (), False)])])), 1)
        self.assertEqual(self.wrong(block((0, 1)), ("page",), ("page",), ("float",), block((0, 1)), block((0, 1)),
                                    floats=[60]), 3)
        self.assertEqual(self.wrong(block((0, 1)), ("float",), floats=[30]), 1)
        # One of two variants can be placed.
        self.assertEqual(self.best(("row", [(0, lines(5)), (9, lines(2))])), (9, [1]))

    def test_the_variants_of_notes_and_floats(self):
        notes = ("para", [(0, lines(3, [0])), (5, lines(1) + lines(1, [0]))])
        self.assertEqual(self.best(notes, notes=[1]), (5, [1]))
        self.assertEqual(self.best(notes, notes=[0], flow=flow_with(height=33)), (0, [0]))
        floating = [("float",), block((0, 3), (5, 2))]
        # Behind the paragraph the float needs a page of its own, which costs what is late.
        self.assertEqual(self.best(*floating, floats=[4]), (5, [1]))
        self.assertEqual(self.best(*floating, floats=[4], flow=flow_with(costs={**COSTS, "late": 4})), (4, [0]))

    def test_random(self):
        found = []
        for case in CASES:
            least = []
            for choice in choices(case[0]):
                matter = matter_of(*case, choice)
                try:
                    cost = total_cost(matter, best_pages(matter)) + cost_up_to(case[0], choice, (len(choice), 0, 0))
                    least.append((cost, choice))
                except PageError:
                    pass
            if least:
                cost, choice = call(self, best_choices, *case)
                self.assertEqual(cost, min(least)[0])
                self.assertIn((cost, choice), least)
                found.append(len(least))
            else:
                at = max(row[0] for row in slow_paper(*case))
                self.assertEqual(fault(self, PageError, best_choices, *case).at, at)
        self.assertGreater(len([many for many in found if many > 3]), 15)
        self.assertGreater(len(CASES) - len(found), 20)

    def test_longer_cases(self):
        chance = random.Random(9)
        found = 0
        for _ in range(150):
            case = some_case(chance, 14)
            rows = paper(*case)
            self.assertTrue(paper_right(*case, rows))
            last = [row for row in rows if row[:4] == (len(counts(case[0])), 0, 0, len(case[2]))]
            if not last:
                self.assertEqual(fault(self, PageError, best_choices, *case).at, max(row[0] for row in rows))
                continue
            cost, choice = best_choices(*case)
            matter = matter_of(*case, choice)
            own = cost_up_to(case[0], choice, (len(choice), 0, 0))
            self.assertEqual((cost, cost), (last[0][4], total_cost(matter, best_pages(matter)) + own))
            found += 1
        self.assertGreater(found, 40)

    def test_costs_below_0(self):
        # They are out of range, but do not raise an error.
        told = []
        for at, (blocks, notes, floats, flow) in enumerate(CASES[:100]):
            costs = {name: [-300, -20, 7][(at + place) % 3] for place, name in enumerate(COSTS)}
            case = (blocks, notes, floats, (*flow[:4], costs, *flow[5:]))
            rows = paper(*case)
            self.assertEqual(rows, slow_paper(*case))
            if rows[-1][:4] == (len(counts(blocks)), 0, 0, len(floats)):
                self.assertEqual(best_choices(*case)[0], rows[-1][4])
                told.append(rows[-1][4])
        self.assertGreater(len([cost for cost in told if cost < 0]), 5)

    def test_page_ends_at_nearly_forbidden_costs(self):
        case = block((0, 1)), block((0, 1), kind="head")
        for cost, told in [(9998, 9998), (9999, 9999)]:
            flow = flow_with(height=9, costs={**COSTS, "head": cost})
            self.assertEqual(self.best(*case, flow=flow)[0], told)
        self.assertEqual(self.wrong(*case, flow=flow_with(height=9, costs={**COSTS, "head": 10000})), 0)

    def test_many_blocks(self):
        chance = random.Random(8)
        blocks = [block(*[(chance.randint(0, 99), chance.randint(2, 6)) for _ in range(3)]) for _ in range(40)]
        flow = flow_with(height=200, keep=2)
        cost, choice = self.best(*blocks, flow=flow)
        matter = matter_of(blocks, [], [], flow, choice)
        self.assertEqual(cost, total_cost(matter, best_pages(matter)) + cost_up_to(blocks, choice, (40, 0, 0)))
        self.assertEqual([len(choice), len(best_pages(matter)) > 5], [40, True])


class TestPapers(unittest.TestCase):
    """Point 20.3."""

    def test_example(self):
        blocks = [block((5, 1), (3, 2)), ("page",), ("float",), block((0, 2), (4, 1))]
        case = (blocks, [], [8], flow_with(height=19, costs={**COSTS, "orphan": 10000}))
        # The float does not fit beside two lines, nor ahead of the new page; beside one line the page shrinks.
        self.assertEqual(call(self, paper, *case), [
            (0, 0, 0, 0, 0), (1, 0, 0, 0, 3), (2, 0, 0, 0, 33), (2, 0, 0, 1, 19)])
        self.assertEqual(best_choices(*case), (19, [1, 1]))

    def test_kinds_of_values(self):
        rows = paper([block((0, 2))], [], [], FLOW)
        self.assertEqual((type(rows), {type(row) for row in rows}), (list, {tuple}))
        self.assertEqual(paper([], [], [], FLOW), [(0, 0, 0, 0, 0)])
        self.assertEqual(paper([], [], [5], FLOW), [(0, 0, 0, 0, 0)])
        self.assertEqual(paper([("float",)], [], [5], FLOW), [(0, 0, 0, 0, 0), (0, 0, 0, 1, 0)])

    def test_random(self):
        for case in CASES:
            rows = call(self, paper, *case)
            self.assertEqual(rows, slow_paper(*case))
            self.assertIs(call(self, paper_right, *case, rows), True)
            last = [row for row in rows if row[:4] == (len(counts(case[0])), 0, 0, len(case[2]))]
            self.assertEqual([row[4] for row in last], [best_choices(*case)[0]] if last else [])

    def test_some_rows_by_hand(self):
        case = ([block((0, 2), (70, 3)), block((0, 1), kind="head"), block((0, 1))], [], [], FLOW)
        rows = paper(*case)
        self.assertIn((0, 1, 2, 0), [row[:4] for row in rows])
        for more in [[(1, 0, 0, 0)], [(0, 1, 2, 0)], [(3, 0, 0, 0)]]:
            self.assertFalse(paper_right(*case, [row for row in rows if row[:4] not in more]))
        self.assertTrue(paper_right(*case, rows[::-1]))
        self.assertTrue(paper_right(*case, [(*row[:4], row[4] - 7) for row in rows]))
        self.assertFalse(paper_right(*case, [(*row[:4], row[4] + 7) for row in rows]))
        self.assertFalse(paper_right(*case, []))
        self.assertFalse(paper_right(*case, rows[1:]))
        self.assertFalse(paper_right(*case, rows + rows[:1]))
        self.assertFalse(paper_right(*case, rows + [(*rows[1][:4], rows[1][4] + 1)]))
        # A page can begin here, though none may end behind a head.
        self.assertNotIn((2, 0, 0, 0), [row[:4] for row in rows])
        self.assertTrue(paper_right(*case, rows + [(2, 0, 0, 0, 9999999)]))
        self.assertFalse(paper_right(*case, rows + [(2, 0, 0, 0, -9999999)]))

    def test_nodes_that_are_not_there(self):
        case = ([block((0, 2), (70, 3)), ("float",), block((0, 1))], [], [5], flow_with(height=200))
        rows = paper(*case)
        self.assertTrue({(1, 0, 0, 1), (2, 0, 0, 0), (2, 0, 0, 1)} < {row[:4] for row in rows})
        self.assertTrue(paper_right(*case, rows + [(*node, 1, 99999) for node in [(0, 0, 1), (0, 1, 1), (0, 1, 2)]]))
        for node in [(0, 0, 2), (0, 1, 3), (0, 2, 1), (0, 1, 0), (0, -1, 1), (0, 0, -1), (1, 0, 1), (1, 1, 0), (2, 0, 1),
                     (2, 1, 0), (3, 0, 0), (-1, 0, 0), (2, 0, -1)]:
            self.assertFalse(paper_right(*case, rows + [(*node, 1, 99999)]))
        for placed in (-1, 2):
            for node in [(0, 1, 1), (2, 0, 0)]:
                self.assertFalse(paper_right(*case, rows + [(*node, placed, 99999)]))

    def test_floats_that_are_placed_ahead_of_their_places(self):
        case = ([block((0, 1)), ("float",), block((0, 1))], [], [5], flow_with(height=10))
        rows = paper(*case)
        for more in [[(0, 0, 0, 1, 500)], [(0, 0, 0, 1, 500), (1, 0, 0, 1, 99999)], [(1, 0, 0, 1, 99999)]]:
            self.assertIs(paper_right(*case, rows + more), slow_right(*case, rows + more))

    def test_wrong_papers(self):
        chance = random.Random(6)
        told = []
        for case in CASES[:150]:
            rows = paper(*case)
            node = chance.choice(list(rows))
            others = [
                [row for row in rows if row != node], rows + [node],
                [(*row[:4], row[4] + chance.choice([-50, 1, 50]) * (row == node)) for row in rows],
                [(*row[:4], row[4] + 1) if row == node else row for row in rows],
                [(*row[:4], row[4] - chance.randint(0, 3)) for row in rows],
                rows + [(chance.randint(0, 3), chance.randint(0, 1), chance.randint(0, 2), chance.randint(0, 1),
                         chance.choice([-10 ** 6, 10 ** 6]))]]
            for other in others:
                right = slow_right(*case, other)
                self.assertIs(call(self, paper_right, *case, other), right)
                told.append(right)
        self.assertGreater(told.count(True), 100)
        self.assertGreater(told.count(False), 150)


if __name__ == "__main__":
    unittest.main()

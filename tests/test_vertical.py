"""The vertical list: points 9.1 to 9.6."""

import random
import unittest

from galleypapers.styles import default_style
from galleypapers.vertical import flow_of, line_gap, vertical
from tests.helper import call

GAPS = {"para": (20, 1, 0), "item": (30, 2, 5), "above": (40, 3, 6), "below": (50, 4, 7), "note": (4, 0, 0),
        "float": (5, 5, 2)}
COSTS = {"widow": 1, "orphan": 20, "hyphen": 300, "head": 4000, "late": 77}
PAGE, FLOAT = ("page",), ("float",)
# Two lines stand with the gap of 12 - 2 - 7 between them.
LINE = (7, 2, (), False)


def flow(keep=1, least=1, leading=12, costs=COSTS):
    return ("flow", leading, least, GAPS, costs, 100, 2, 40, keep)


def some(kind, many, *hyphenated):
    """A block of lines, some of them hyphenated."""
    return (kind, [(7, 2, (), at in hyphenated) for at in range(many)])


def costs_of(blocks, its_flow):
    return [row[1] for row in vertical(blocks, its_flow) if row[0] == "cost"]


def kinds_of(blocks):
    """A short form of a vertical list: lines as their block, floats as a letter, costs in brackets."""
    words = []
    for row in vertical(blocks, flow()):
        if row[0] == "line":
            words.append(str(row[1]))
        elif row[0] == "float":
            words.append("ab"[row[1]] if row[1] < 2 else "c")
        elif row[0] == "cost":
            words.append(f"[{row[1]}]")
        else:
            words.append("_")
    return " ".join(words)


def slow_vertical(blocks, its_flow):
    """The vertical list, made place by place from what stands between two blocks of lines."""
    _, leading, least, gaps, costs, _, _, _, keep = its_flow
    lined = [at for at, block in enumerate(blocks) if block[0] not in ("page", "float")]
    number = {at: k for k, at in enumerate(at for at, block in enumerate(blocks) if block[0] == "float")}
    if not lined:
        return [("float", number[at]) for at in number]
    rows = [("float", number[at]) for at in number if at < lined[0]]
    for upper, at in zip([None] + lined, lined):
        kind, lines = blocks[at]
        if upper is not None:
            pages = [k for k in range(upper, at) if blocks[k] == PAGE]
            asked = pages[0] if pages else at
            rows += [("float", number[k]) for k in range(upper, asked) if k in number]
            above = blocks[upper][0]
            amount = -10000 if pages else 10000 if above == "head" else costs["head"] if kind == "head" else 0
            name = ("above" if kind == "head" else "below" if above == "head" else
                    "item" if (above, kind) in [("item", "item"), ("row", "row")] else "para")
            height, stretch, shrink = gaps[name]
            height += max(least, leading - blocks[upper][1][-1][1] - lines[0][0])
            rows += [("cost", amount), ("gap", height, stretch, shrink)]
            rows += [("float", number[k]) for k in range(asked, at) if k in number]
        for k, (height, depth, notes, _) in enumerate(lines):
            if k:
                amount = (costs["hyphen"] * lines[k - 1][3] + costs["orphan"] * (k == 1) +
                          costs["widow"] * (k == len(lines) - 1))
                if kind in ("head", "row") or k < keep or len(lines) - k < keep:
                    amount = 10000
                rows += [("cost", amount), ("gap", max(least, leading - lines[k - 1][1] - height), 0, 0)]
            rows.append(("line", at, k, height, depth, notes))
    return rows + [("float", number[at]) for at in number if at > lined[-1]]


class TestExample(unittest.TestCase):
    def test_example(self):
        gaps = {"para": (2, 1, 0), "item": (0, 0, 0), "above": (9, 4, 2), "below": (3, 0, 0), "note": (4, 0, 0),
                "float": (5, 5, 2)}
        costs = {"widow": 150, "orphan": 100, "hyphen": 50, "head": 0, "late": 30}
        its_flow = ("flow", 12, 1, gaps, costs, 100, 2, 40, 1)
        one = ("para", [(7, 2, (), True), (7, 2, (0,), False)])
        told = call(self, vertical, [one, ("float",), ("head", [(10, 3, (), False)])], its_flow)
        self.assertEqual(
            told,
            [('line', 0, 0, 7, 2, ()), ('cost', 300), ('gap', 3, 0, 0), ('line', 0, 1, 7, 2, (0,)), ('float', 0),
             ('cost', 0), ('gap', 10, 4, 2), ('line', 2, 0, 10, 3, ())])
        self.assertEqual((type(told), {type(row) for row in told}), (list, {tuple}))


class TestFlow(unittest.TestCase):
    """Point 9.1, and `flow_of`."""

    def test_flow_of_a_style(self):
        style = list(default_style())
        style[3:5] = [777, 13]
        style[8] = {"line": 1, "hyphen": 2, "double": 3, "fitness": 4, "widow": 5, "orphan": 6, "broken": 7, "head": 8,
                    "late": 9}
        style[9] = {"above": (9, 1, 2), "below": (8, 2, 3), "paragraph": (7, 3, 4), "item": (6, 4, 5), "note": (5, 5, 4),
                    "float": (4, 6, 3)}
        style[10] = {"notes": 55, "floats": 2, "keep": 3, "least": 4}
        gaps = {"above": (9, 1, 2), "below": (8, 2, 3), "para": (7, 3, 4), "item": (6, 4, 5), "note": (5, 5, 4),
                "float": (4, 6, 3)}
        costs = {"widow": 5, "orphan": 6, "hyphen": 7, "head": 8, "late": 9}
        self.assertEqual(call(self, flow_of, tuple(style)), ("flow", 13, 4, gaps, costs, 777, 2, 55, 3))
        self.assertIs(type(flow_of(tuple(style))), tuple)


class TestWithinBlocks(unittest.TestCase):
    """Points 9.2 to 9.4."""

    def test_lines(self):
        lines = [(7, 2, (3, 1), True), (8, 4, (), False), (9, 0, (0,), True)]
        self.assertEqual(
            call(self, vertical, [FLOAT, ("para", lines)], flow()),
            [("float", 0), ("line", 1, 0, 7, 2, (3, 1)), ("cost", 320), ("gap", 2, 0, 0), ("line", 1, 1, 8, 4, ()),
             ("cost", 1), ("gap", 1, 0, 0), ("line", 1, 2, 9, 0, (0,))])

    def test_heights_of_gaps(self):
        for depth, height, least, due in [(2, 7, 1, 3), (2, 9, 1, 1), (2, 10, 1, 1), (2, 10, 0, 0), (2, 99, 0, 0),
                                          (0, 0, 1, 12), (2, 7, 3, 3), (2, 7, 4, 4), (3, 6, 0, 3), (0, 0, 50, 50)]:
            rows = vertical([("para", [(5, depth, (), False), (height, 5, (), False)])], flow(1, least))
            self.assertEqual(rows[2], ("gap", due, 0, 0))
            self.assertEqual(line_gap(flow(1, least), depth, height), due)
        rows = vertical([("item", [LINE, LINE])], flow(1, 1, 20))
        self.assertEqual(rows[2], ("gap", 11, 0, 0))

    def test_costs(self):
        self.assertEqual(costs_of([some("para", 1)], flow()), [])
        self.assertEqual(costs_of([some("para", 2)], flow()), [21])
        self.assertEqual(costs_of([some("para", 2, 0)], flow()), [321])
        self.assertEqual(costs_of([some("para", 2, 1)], flow()), [21])
        self.assertEqual(costs_of([some("para", 3, 0)], flow()), [320, 1])
        self.assertEqual(costs_of([some("item", 4, 1)], flow()), [20, 300, 1])
        self.assertEqual(costs_of([some("item", 5, 3, 4)], flow()), [20, 0, 0, 301])

    def test_heads_and_rows(self):
        self.assertEqual(costs_of([some("head", 3, 0)], flow()), [10000, 10000])
        self.assertEqual(costs_of([some("row", 3, 1)], flow()), [10000, 10000])

    def test_keep(self):
        never = 10000
        self.assertEqual(costs_of([some("para", 6)], flow(1)), [20, 0, 0, 0, 1])
        self.assertEqual(costs_of([some("para", 6)], flow(2)), [never, 0, 0, 0, never])
        self.assertEqual(costs_of([some("para", 6, 2)], flow(3)), [never, never, 300, never, never])
        self.assertEqual(costs_of([some("item", 6)], flow(4)), [never] * 5)
        self.assertEqual(costs_of([some("para", 2)], flow(2)), [never])
        self.assertEqual(costs_of([some("para", 6)], flow(10000000)), [never] * 5)

    def test_sums_above_the_greatest_cost(self):
        costs = {"widow": 10000, "orphan": 10000, "hyphen": 10000, "head": 0, "late": 0}
        self.assertEqual(costs_of([some("para", 2, 0)], flow(1, 1, 12, costs)), [30000])


class TestBetweenBlocks(unittest.TestCase):
    """Point 9.5."""

    def test_gaps_and_costs(self):
        for upper, lower, cost, gap in [
                ("para", "para", 0, "para"), ("para", "item", 0, "para"), ("item", "para", 0, "para"),
                ("item", "item", 0, "item"), ("row", "row", 0, "item"), ("row", "item", 0, "para"),
                ("item", "row", 0, "para"), ("para", "row", 0, "para"), ("row", "para", 0, "para"),
                ("head", "head", 10000, "above"), ("para", "head", 4000, "above"), ("item", "head", 4000, "above"),
                ("row", "head", 4000, "above"), ("head", "para", 10000, "below"), ("head", "item", 10000, "below"),
                ("head", "row", 10000, "below")]:
            with self.subTest((upper, lower)):
                blocks = [some(upper, 1, 0), some(lower, 1)]
                height, stretch, shrink = GAPS[gap]
                told = call(self, vertical, blocks, flow(3))
                self.assertEqual(told[1:3], [("cost", cost), ("gap", height + 3, stretch, shrink)])
                self.assertEqual(told[3:], [("line", 1, 0, 7, 2, ())])
                told = call(self, vertical, [blocks[0], PAGE, blocks[1]], flow(3))
                self.assertEqual(told[1:3], [("cost", -10000), ("gap", height + 3, stretch, shrink)])

    def test_lines_at_which_blocks_meet(self):
        upper = ("para", [(1, 1, (), False), (2, 5, (), False)])
        lower = ("para", [(4, 1, (), False), (50, 1, (), False)])
        self.assertEqual(vertical([upper, lower], flow())[5], ("gap", 23, 1, 0))
        lower[1][0] = (9, 1, (), False)
        self.assertEqual(vertical([upper, lower], flow())[5], ("gap", 21, 1, 0))
        self.assertEqual(vertical([upper, FLOAT, lower], flow(1, 0))[6], ("gap", 20, 1, 0))


class TestFloatsAndNewPages(unittest.TestCase):
    """Point 9.6."""

    def test_places_of_floats(self):
        one = some("para", 1)
        for blocks, told in [
                ([], ""), ([FLOAT], "a"), ([PAGE], ""), ([FLOAT, FLOAT], "a b"), ([PAGE, FLOAT, PAGE, FLOAT], "a b"),
                ([FLOAT, one, FLOAT], "a 1 b"),
                ([FLOAT, PAGE, FLOAT, PAGE, one], "a b 4"), ([PAGE, one], "1"), ([PAGE, PAGE, FLOAT, one], "a 3"),
                ([one, FLOAT, FLOAT, one], "0 a b [0] _ 3"), ([one, FLOAT, PAGE, one], "0 a [-10000] _ 3"),
                ([one, PAGE, FLOAT, one], "0 [-10000] _ a 3"),
                ([one, FLOAT, PAGE, FLOAT, FLOAT, one], "0 a [-10000] _ b c 5"),
                ([one, PAGE, FLOAT, PAGE, FLOAT, one], "0 [-10000] _ a b 5"),
                ([one, PAGE, PAGE, one], "0 [-10000] _ 3"), ([one, PAGE], "0"), ([one, PAGE, FLOAT], "0 a"),
                ([one, FLOAT, PAGE, FLOAT], "0 a b"), ([one, PAGE, PAGE, FLOAT, PAGE, FLOAT], "0 a b"),
                ([one, PAGE, FLOAT, one, FLOAT, one], "0 [-10000] _ a 3 b [0] _ 5"),
                ([one, PAGE, one, one, PAGE, FLOAT], "0 [-10000] _ 2 [0] _ 3 a")]:
            with self.subTest(blocks):
                self.assertEqual(kinds_of(blocks), told)

    def test_float_behind_a_head(self):
        blocks = [some("head", 1), FLOAT, some("para", 1)]
        self.assertEqual(kinds_of(blocks), "0 a [10000] _ 2")

    def test_random_blocks(self):
        chance = random.Random(96)
        for _ in range(500):
            blocks = []
            for _ in range(chance.randint(0, 7)):
                kind = chance.choice(["head", "para", "item", "row", "para", "item", "page", "float", "float"])
                lines = [(chance.randint(0, 12), chance.randint(0, 6), tuple(range(chance.randint(0, 2))),
                          chance.random() < 0.5) for _ in range(chance.randint(1, 5))]
                blocks.append((kind,) if kind in ("page", "float") else (kind, lines))
            its_flow = flow(chance.randint(1, 3), chance.randint(0, 4), chance.randint(0, 20))
            self.assertEqual(call(self, vertical, blocks, its_flow), slow_vertical(blocks, its_flow))


if __name__ == "__main__":
    unittest.main()

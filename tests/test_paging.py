"""Pages and their papers: points 10.1 to 10.9."""

import random
import unittest

from galleypapers.errors import GalleyError, PageError
from galleypapers.paging import accepted, best_pages, paper, paper_right, total_cost
from galleypapers.vertical import vertical
from tests.helper import call, fault
from tests.slow_pages import next_pages, positions, slow_paper, slow_right, slow_total, slow_ways

GAPS = {"para": (2, 2, 0), "item": (0, 0, 0), "above": (9, 4, 2), "below": (3, 0, 0), "note": (4, 0, 0),
        "float": (5, 5, 2)}
COSTS = {"widow": 150, "orphan": 100, "hyphen": 50, "head": 0, "late": 30}


def line(height=10, notes=(), depth=0):
    return ("line", 0, 0, height, depth, notes)


def end(amount=0):
    return ("cost", amount)


def gap(height=0, stretch=0, shrink=0):
    return ("gap", height, stretch, shrink)


def flow(height=22, most=1, room=40, late=30, note_gap=(4, 0, 0), float_gap=(5, 5, 2)):
    gaps = {**GAPS, "note": note_gap, "float": float_gap}
    return ("flow", 12, 1, gaps, {**COSTS, "late": late}, height, most, room, 1)


def matter(rows, notes=(), floats=(), **parts):
    return ("matter", list(rows), list(notes), list(floats), flow(**parts))


def cost(its_matter, *pages):
    """The cost of pages (first, last, floats), by the slow way too."""
    pages = [("page", first, last, tuple(floats)) for first, last, *floats in pages]
    told = total_cost(its_matter, pages)
    assert told == slow_total(its_matter, pages), (told, slow_total(its_matter, pages))
    return told


EXAMPLE = matter([("line", 0, 0, 8, 2, ()), end(5), gap(2, 2), ("line", 0, 0, 8, 2, ()), end(7), gap(2, 2),
                  ("line", 0, 0, 8, 2, ())])
# Three lines, each with a place for a page to end behind it, and room for two.
THREE = [line(), end(5), gap(), line(), end(7), gap(), line()]


def some_rows(chance):
    """A vertical list, with the heights of its notes and floats."""
    rows, notes, floats = [], [], []
    lines = chance.choice([0, 1, 2, 3, 4, 5, 6])
    for at in range(lines):
        if at and chance.random() < 0.8:
            rows.append(end(chance.choice([0, 0, 0, 3, 50, -40, 9999, 10000, 10001, -10000])))
        parts = []
        for _ in range(chance.choice([0, 1, 1, 2])):
            height = chance.randint(0, 4)
            parts.append(gap(height, chance.choice([0, 0, 1, 3]), chance.randint(0, height)))
        for _ in range(chance.choice([0, 0, 0, 1])):
            parts.append(("float", None))
        chance.shuffle(parts)
        rows += parts
        its_notes = tuple(range(len(notes), len(notes) + chance.choice([0, 0, 0, 1, 2])))
        notes += [chance.randint(0, 5) for _ in its_notes]
        rows.append(line(chance.randint(0, 6), its_notes, chance.randint(0, 2)))
    rows += [chance.choice([("float", None), ("float", None), gap(3, 2, 1)]) for _ in range(chance.choice([0, 0, 1, 2]))]
    for at, row in enumerate(rows):
        if row[0] == "float":
            rows[at] = ("float", len(floats))
            floats.append(chance.randint(0, 12))
    return rows, notes, floats


def some_matter(chance):
    rows, notes, floats = some_rows(chance)
    note_gap, float_gap = [(3, chance.choice([0, 2]), chance.choice([0, 1, 3])) for _ in range(2)]
    return matter(rows, notes, floats, height=chance.randint(6, 24), most=chance.choice([0, 1, 1, 2, 3]),
                  room=chance.choice([0, 3, 6, 40]), late=chance.choice([0, 1, 30, 5000]), note_gap=note_gap,
                  float_gap=float_gap)


class TestExample(unittest.TestCase):
    def test_example(self):
        pages = call(self, best_pages, EXAMPLE)
        self.assertEqual(pages, [("page", 0, 5, ()), ("page", 5, 7, ())])
        self.assertEqual(call(self, total_cost, EXAMPLE, pages), 7)
        rows = call(self, paper, EXAMPLE)
        self.assertEqual(rows, [(0, 0, 0), (2, 0, 10005), (5, 0, 7), (7, 0, 7)])
        self.assertIs(call(self, accepted, EXAMPLE, pages, rows), True)
        self.assertIs(call(self, paper_right, EXAMPLE, rows), True)

    def test_kinds_of_values(self):
        its_matter = matter([line(), ("float", 0)], [], [3])
        pages = best_pages(its_matter)
        self.assertEqual(pages, [("page", 0, 2, (0,))])
        self.assertEqual([type(pages), type(pages[0]), type(pages[0][3])], [list, tuple, tuple])
        rows = paper(its_matter)
        self.assertEqual([type(rows), type(rows[0])], [list, tuple])
        self.assertIs(paper_right(its_matter, []), False)
        self.assertIs(accepted(its_matter, [], rows), False)


class TestPositions(unittest.TestCase):
    """Point 10.2."""

    def test_where_pages_end(self):
        for amount, right in [(0, True), (9999, True), (-9999, True), (-10000, True), (-10001, True), (10000, False),
                              (10001, False), (20000, False)]:
            its_matter = matter([line(), end(amount), gap(), line()], height=20)
            with self.subTest(amount):
                added = 0 if amount == -10000 else amount
                self.assertEqual(cost(its_matter, (0, 2), (2, 4)), 10000 + added if right else None)
                self.assertEqual(cost(its_matter, (0, 4)), None if amount == -10000 else 0)
                self.assertEqual([row[0] for row in paper(its_matter)],
                                 [0, 2, 4] if right else [0, 4])

    def test_pages_follow_each_other(self):
        its_matter = matter(THREE, height=30)
        for pages, told in [([(0, 7)], 0), ([(0, 2), (2, 7)], 10005), ([(0, 5), (5, 7)], 10007),
                            ([(0, 2), (2, 5), (5, 7)], 20012)]:
            self.assertEqual(cost(its_matter, *pages), told)
        for pages in [[], [(0, 2)], [(0, 2), (5, 7)], [(0, 5), (2, 7)], [(2, 7)], [(0, 2), (2, 2), (2, 7)], [(0, 0), (0, 7)],
                      [(0, 3), (3, 7)], [(0, 1), (1, 7)], [(0, 7), (7, 7)], [(0, 8)], [(-7, 7)], [(-1, 7)], [(0, -1)],
                      [(0, 7), (0, 7)], [(7, 0)], [(7, 7)], [(0, 5), (5, 2), (2, 7)], [(0, 7), (7, 8)], [(0, 7), (7, 0)]]:
            with self.subTest(pages):
                self.assertIsNone(cost(its_matter, *pages))

    def test_a_page_must_end(self):
        rows = [line(), end(-10000), gap(), line(), end(-10000), gap(), line()]
        its_matter = matter(rows, height=100)
        self.assertEqual(best_pages(its_matter), [("page", 0, 2, ()), ("page", 2, 5, ()), ("page", 5, 7, ())])
        self.assertEqual(cost(its_matter, (0, 2), (2, 5), (5, 7)), 20000)
        for pages in [[(0, 7)], [(0, 2), (2, 7)], [(0, 5), (5, 7)]]:
            self.assertIsNone(cost(its_matter, *pages))

    def test_no_lines(self):
        for rows in [[], [gap(5, 5, 5)]]:
            many = len(rows)
            empty = matter(rows)
            self.assertEqual(call(self, best_pages, empty), [])
            self.assertEqual(cost(empty), 0)
            self.assertEqual(call(self, paper, empty), [(many, 0, 0)])
            self.assertIs(call(self, accepted, empty, [], [(many, 0, 0)]), True)
            self.assertIsNone(cost(empty, (many, many)))
            self.assertIsNone(cost(empty, (0, many)))

    def test_floats_alone(self):
        its_matter = matter([("float", 0), ("float", 1), ("float", 2)], [], [3, 4, 5], height=50, most=2)
        self.assertEqual(cost(its_matter, (3, 3, 0, 1), (3, 3, 2)), 30)
        self.assertEqual(cost(its_matter, (3, 3, 0), (3, 3, 1), (3, 3, 2)), 90)
        for pages in [[], [(0, 3, 0, 1), (3, 3, 2)], [(3, 3, 0, 1, 2)], [(3, 3), (3, 3, 0, 1), (3, 3, 2)],
                      [(3, 3, 0, 1)], [(3, 3, 0, 1), (3, 3, 2), (3, 3)], [(0, 0, 0, 1), (3, 3, 2)]]:
            self.assertIsNone(cost(its_matter, *pages))
        self.assertEqual(total_cost(its_matter, best_pages(its_matter)), 30)
        self.assertEqual(paper(its_matter), [(3, 0, 0), (3, 1, 60), (3, 2, 30), (3, 3, 30)])
        self.assertIs(accepted(its_matter, best_pages(its_matter), paper(its_matter)), True)

    def test_floats_behind_all_lines(self):
        its_matter = matter([line(), ("float", 0)], [], [8], height=20)
        self.assertEqual(best_pages(its_matter), [("page", 0, 2, ()), ("page", 2, 2, (0,))])
        self.assertEqual(cost(its_matter, (0, 2), (2, 2, 0)), 30)
        self.assertIsNone(cost(its_matter, (0, 2)))
        self.assertIsNone(cost(its_matter, (0, 2), (2, 2), (2, 2, 0)))


class TestFloats(unittest.TestCase):
    """Point 10.3."""

    def test_order(self):
        rows = [("float", 0), line(), ("float", 1), end(), gap(), ("float", 2), line()]
        its_matter = matter(rows, [], [1, 1, 1], height=90, most=3, late=0)
        right = [[(0, 7, 0, 1, 2)], [(0, 4, 0, 1), (4, 7, 2)], [(0, 4), (4, 7, 0, 1, 2)], [(0, 4, 0), (4, 7, 1, 2)],
                 [(0, 4, 0, 1), (4, 7), (7, 7, 2)], [(0, 7), (7, 7, 0), (7, 7, 1, 2)]]
        for pages in right:
            self.assertIsNotNone(cost(its_matter, *pages))
        for pages in [[(0, 7)], [(0, 7, 0, 1)], [(0, 7, 0, 2, 1)], [(0, 7, 1, 2)], [(0, 7, 0, 1, 2, 3)],
                      [(0, 7, 0, 0, 1, 2)], [(0, 4, 1), (4, 7, 0, 2)], [(0, 4, 0, 1, 2), (4, 7)], [(0, 7, -1, 0, 1, 2)],
                      [(0, 4, 0), (4, 7, 2)], [(0, 7, 0, 1, 2), (7, 7, 2)]]:
            with self.subTest(pages):
                self.assertIsNone(cost(its_matter, *pages))

    def test_most(self):
        for most in range(4):
            its_matter = matter([("float", 0), ("float", 1), line()], [], [1, 1], height=90, most=most)
            self.assertEqual(cost(its_matter, (0, 3, 0, 1)), 0 if most >= 2 else None)
            self.assertEqual(cost(its_matter, (0, 3, 0), (3, 3, 1)), 30 if most >= 1 else None)
        its_matter = matter([("float", 0), line()], [], [1], height=90, most=0)
        self.assertEqual(fault(self, PageError, best_pages, its_matter).at, 2)
        self.assertEqual(paper(its_matter), [(0, 0, 0), (2, 0, 30)])

    def test_places_ahead_of_the_last_row(self):
        rows = [line(), ("float", 0), end(), ("float", 1), gap(), line()]
        its_matter = matter(rows, [], [1, 1], height=90, most=3)
        self.assertIsNotNone(cost(its_matter, (0, 3, 0), (3, 6, 1)))
        self.assertIsNone(cost(its_matter, (0, 3, 0, 1), (3, 6)))


class TestHeights(unittest.TestCase):
    """Points 10.4 and 10.5."""

    def fits(self, rows, height, notes=(), floats=(), **parts):
        """One page has the whole list at this height, but not at a smaller one."""
        page = ("page", 0, len(rows), tuple(range(len(floats))))
        for given in range(max(1, height - 3), height + 3):
            told = total_cost(matter(rows, notes, floats, height=given, **parts), [page])
            self.assertEqual(told is not None, given >= height, given)

    def test_lines_and_gaps(self):
        self.fits([line(7, (), 3)], 10)
        self.fits([line(7, (), 3), gap(4, 9), line(1)], 15)
        self.fits([line(7, (), 3), gap(4, 9, 3), line(1)], 12)
        self.fits([line(7, (), 3), gap(4), gap(2, 0, 2), line(1)], 15)
        self.fits([gap(50, 1, 1), line(7), gap(50)], 7)

    def test_gaps_at_the_ends_of_pages(self):
        its_matter = matter([gap(9), line(), gap(9), end(), gap(9), line(), gap(9)], height=10)
        self.assertEqual(cost(its_matter, (0, 4), (4, 7)), 0)

    def test_floats(self):
        self.fits([line(10), ("float", 0)], 18, [], [5], float_gap=(3, 9, 0))
        self.fits([line(10), ("float", 0)], 16, [], [5], float_gap=(3, 9, 2))
        self.fits([line(10), ("float", 0), ("float", 1)], 10 + 5 + 1 + 6, [], [5, 1], float_gap=(3, 0, 0), most=2)
        self.fits([line(10), ("float", 0), ("float", 1)], 10 + 5 + 1, [], [5, 1], float_gap=(3, 0, 3), most=2)

    def test_notes(self):
        self.fits([line(10, (0,))], 18, [5], note_gap=(3, 9, 0))
        self.fits([line(10, (0, 1)), gap(), line(2, (2,))], 10 + 2 + 5 + 6 + 7 + 3, [5, 6, 7], note_gap=(3, 0, 0))
        self.fits([line(10, (1,)), gap(), line(2, (0,))], 10 + 2 + 5 + 6 + 1, [5, 6], note_gap=(3, 0, 2))
        self.fits([line(10, (0,))], 13, [0], note_gap=(3, 0, 0))

    def test_notes_of_one_page(self):
        its_matter = matter([line(10, (0,)), end(), gap(), line(10, (1,))], [5, 9], height=22, note_gap=(3, 0, 0))
        self.assertEqual(cost(its_matter, (0, 3), (3, 4)), None)
        self.assertEqual(cost(its_matter, (0, 2), (2, 4)), 10000)

    def test_greatest_height_of_notes(self):
        for most in range(8, 14):
            its_matter = matter([line(1, (0, 1)), end(), gap(), line(1, (2,))], [5, 5, 1], height=90, room=most)
            self.assertEqual(cost(its_matter, (0, 4)), 0 if most >= 11 else None)
            self.assertEqual(cost(its_matter, (0, 2), (2, 4)), 10000 if most >= 10 else None)
        # Neither the gap above the notes nor floats count.
        its_matter = matter([("float", 0), line(1, (0,))], [5], [30], height=90, room=5)
        self.assertEqual(cost(its_matter, (0, 2, 0)), 0)
        self.assertEqual(cost(matter([line(1, (0,))], [0], room=0), (0, 1)), 0)

    def test_badness(self):
        # (height, stretch, shrink) of a gap between lines of together 20, the page, and the badness within the pages.
        for its_gap, height, bad in [
                ((10, 10, 10), 30, 0), ((10, 10, 10), 40, 100), ((10, 10, 10), 39, 72), ((10, 10, 10), 35, 12),
                ((10, 10, 10), 41, 133), ((10, 10, 10), 25, 12), ((10, 10, 10), 20, 100), ((10, 10, 10), 19, None),
                ((10, 0, 0), 30, 0), ((10, 0, 0), 31, 10000), ((10, 0, 0), 29, None), ((10, 0, 1), 29, 100),
                ((10, 1, 0), 34, 6400), ((10, 1, 0), 35, 10000), ((10, 1, 0), 99, 10000), ((10, 3, 7), 28, 2),
                ((10, 7, 3), 28, 29), ((10, 7, 3), 32, 2), ((10, 3, 7), 32, 29), ((10, 100000, 0), 31, 0)]:
            rows = [line(), gap(*its_gap), line(), end(), gap(), line(1)]
            with self.subTest((its_gap, height)):
                self.assertEqual(cost(matter(rows, height=height), (0, 4), (4, 6)), bad)
                # The last page is not bad if it is short, but it is if it is shrunk.
                alone = 0 if bad is not None and height > 30 else bad
                self.assertEqual(cost(matter(rows[:3], height=height), (0, 3)), alone)

    def test_pages_of_floats_end_at_the_end(self):
        rows = [line(), ("float", 0)]
        self.assertEqual(cost(matter(rows, [], [3], height=20, late=0), (0, 2), (2, 2, 0)), 0)
        # A gap behind the last line is on no page.
        self.assertEqual(cost(matter([*rows, gap(9, 9, 9)], [], [3], height=8, late=0), (0, 3), (3, 3, 0)), None)
        self.assertEqual(cost(matter([*rows, gap(9, 9, 9)], [], [3], height=10, late=0), (0, 3), (3, 3, 0)), 0)
        self.assertEqual(cost(matter([*rows, gap(9, 9, 9)], [], [20], height=20, late=0), (0, 3), (3, 3, 0)), None)
        its_matter = matter(rows, [], [19], height=20, late=0, float_gap=(5, 0, 5))
        self.assertEqual(cost(its_matter, (0, 2), (2, 2, 0)), 51)
        its_matter = matter(rows, [], [21], height=20, late=0, float_gap=(5, 0, 5))
        self.assertEqual(fault(self, PageError, best_pages, its_matter).at, 2)

    def test_large_numbers(self):
        wide = 10 ** 30
        rows = [line(wide), gap(wide, 2 * wide, wide), line(wide), end(), gap(), line(1)]
        self.assertEqual(cost(matter(rows, height=4 * wide), (0, 4), (4, 6)), 12)
        self.assertEqual(cost(matter(rows, height=2 * wide), (0, 4), (4, 6)), 100)
        self.assertIsNone(cost(matter(rows, height=2 * wide - 1), (0, 4), (4, 6)))


class TestCosts(unittest.TestCase):
    """Point 10.6."""

    def test_where_pages_end(self):
        its_matter = matter(THREE, height=20)
        self.assertEqual(cost(its_matter, (0, 5), (5, 7)), 7)
        self.assertEqual(cost(its_matter, (0, 2), (2, 7)), 10005)
        self.assertEqual(cost(its_matter, (0, 2), (2, 5), (5, 7)), 20012)
        its_matter = matter([line(), end(-9999), gap(), line()], height=10)
        self.assertEqual(cost(its_matter, (0, 2), (2, 4)), -9999)
        its_matter = matter([line(), end(-10000), gap(), line()], height=10)
        self.assertEqual(cost(its_matter, (0, 2), (2, 4)), 0)

    def test_late_floats(self):
        rows = [("float", 0), ("float", 1), line(), end(), gap(), line(), end(), gap(), ("float", 2), line()]
        its_matter = matter(rows, [], [0, 0, 0], height=10, most=2, late=1000, float_gap=(0, 0, 0))
        self.assertEqual(cost(its_matter, (0, 4, 0, 1), (4, 7), (7, 10, 2)), 0)
        self.assertEqual(cost(its_matter, (0, 4, 0), (4, 7, 1), (7, 10, 2)), 1000)
        self.assertEqual(cost(its_matter, (0, 4, 0), (4, 7), (7, 10, 1, 2)), 2000)
        self.assertEqual(cost(its_matter, (0, 4), (4, 7, 0), (7, 10, 1), (10, 10, 2)), 2000 + 1000 + 1000)
        self.assertEqual(cost(its_matter, (0, 4), (4, 7), (7, 10), (10, 10, 0), (10, 10, 1, 2)), 2000 + 2000 + 3000 + 2000)

    def test_late_only_if_the_place_is_ahead(self):
        rows = [line(), end(), ("float", 0), gap(), line()]
        its_matter = matter(rows, [], [0], height=10, late=1000, float_gap=(0, 0, 0))
        self.assertEqual(cost(its_matter, (0, 2), (2, 5, 0)), 0)
        rows[1:3] = rows[2], rows[1]
        its_matter = matter(rows, [], [0], height=10, late=1000, float_gap=(0, 0, 0))
        self.assertEqual(cost(its_matter, (0, 3), (3, 5, 0)), 1000)


class TestBestPages(unittest.TestCase):
    """Point 10.7."""

    def test_errors(self):
        rows = [line(), end(), gap(), line(), end(), gap(), line(30)]
        self.assertEqual(fault(self, PageError, best_pages, matter(rows)).at, 5)
        self.assertEqual(fault(self, PageError, best_pages, matter(rows[::-1])).at, 0)
        self.assertEqual(fault(self, PageError, best_pages, matter(rows[3:])).at, 2)
        self.assertTrue(issubclass(PageError, GalleyError))
        # Pages lead to the end here, but not with all floats.
        its_matter = matter([("float", 0), *THREE], [], [50])
        self.assertEqual(fault(self, PageError, best_pages, its_matter).at, 8)
        its_matter = matter([("float", 0)], [], [50])
        self.assertEqual(fault(self, PageError, best_pages, its_matter).at, 1)

    def test_the_greatest_position_is_not_the_last_one_found(self):
        # Behind the position 5 no page is allowed, since its line has too many notes.
        rows = [line(), end(), gap(), line(), end(), gap(), line(1, (0,)), end(), gap(), line()]
        self.assertEqual(fault(self, PageError, best_pages, matter(rows, [50])).at, 5)

    def test_floats_go_where_they_cost_least(self):
        rows = [("float", 0), line(), end(), gap(), line(), end(), gap(), line()]
        its_matter = matter(rows, [], [10], height=20, float_gap=(0, 0, 0), late=3)
        self.assertEqual(best_pages(its_matter), [("page", 0, 3, (0,)), ("page", 3, 8, ())])
        its_matter = matter(rows, [], [20], height=20, float_gap=(0, 0, 0), late=3)
        self.assertEqual(best_pages(its_matter), [("page", 0, 6, ()), ("page", 6, 8, ()), ("page", 8, 8, (0,))])

    def test_random_matters(self):
        chance = random.Random(107)
        wrong = 0
        for _ in range(700):
            its_matter = some_matter(chance)
            ways = slow_ways(its_matter)
            whole = [way[3] for way in ways if way[1:3] == (len(its_matter[1]), len(its_matter[3]))]
            if whole:
                pages = call(self, best_pages, its_matter)
                self.assertEqual(call(self, total_cost, its_matter, pages), min(whole), its_matter)
                self.assertEqual(slow_total(its_matter, pages), min(whole), its_matter)
                self.assertEqual(best_pages(its_matter), pages)
            else:
                wrong += 1
                told = fault(self, PageError, best_pages, its_matter).at
                self.assertEqual(told, max(way[1] for way in ways), its_matter)
            for way in chance.sample(ways, min(6, len(ways))):
                self.assertEqual(total_cost(its_matter, way[0]), slow_total(its_matter, way[0]))
            rows = call(self, paper, its_matter)
            self.assertEqual(rows, slow_paper(its_matter), its_matter)
            self.assertIs(call(self, paper_right, its_matter, rows), True)
        self.assertTrue(100 < wrong < 500, wrong)

    def test_total_cost_of_any_pages(self):
        chance = random.Random(110)
        rights = 0
        for _ in range(1500):
            its_matter = some_matter(chance)
            ways = slow_ways(its_matter)
            pages = [list(page) for page in chance.choice(ways)[0]]
            for _ in range(chance.choice([0, 1, 1])):
                at = chance.randint(0, len(pages))
                change = chance.choice(["drop", "twice", "first", "last", "floats"]) if at < len(pages) else "more"
                if change == "drop":
                    del pages[at]
                elif change == "twice":
                    pages.insert(at, pages[at])
                elif change == "more":
                    pages.append(["page", len(its_matter[1]), len(its_matter[1]), ()])
                elif change == "floats":
                    pages[at][3] = tuple(range(chance.randint(0, 2), chance.randint(0, 3)))
                else:
                    pages[at][1 if change == "first" else 2] += chance.choice([-2, -1, 1, 2])
            pages = [tuple(page) for page in pages]
            told = slow_total(its_matter, pages)
            self.assertEqual(call(self, total_cost, its_matter, pages), told)
            rights += told is not None
        self.assertGreater(rights, 100)

    def test_pages_of_blocks(self):
        blocks = [("head", [(12, 3, (), False)]), ("para", [(7, 2, (), False)] * 7), ("float",), ("page",),
                  ("item", [(7, 2, (0,), True), (7, 2, (), False)]), ("item", [(7, 2, (1,), False)])]
        its_flow = ("flow", 12, 1, GAPS, COSTS, 70, 2, 40, 2)
        its_matter = ("matter", vertical(blocks, its_flow), [8, 8], [20], its_flow)
        pages = best_pages(its_matter)
        self.assertEqual([page[3] for page in pages], [(), (0,), ()])
        self.assertEqual(total_cost(its_matter, pages), min(
            way[3] for way in slow_ways(its_matter) if way[1:3] == (len(its_matter[1]), 1)))


class TestPapers(unittest.TestCase):
    """Points 10.8 and 10.9."""

    def test_form(self):
        rows = paper(EXAMPLE)
        wrong = [[], rows[1:], rows[::-1], [rows[0], rows[0], *rows[1:]], [rows[1], rows[0], *rows[2:]],
                 [(0, 0, 1), *rows[1:]], [*rows[:3], (6, 0, 7), rows[3]], [(-1, 0, 7), *rows], [*rows, (8, 0, 0)],
                 [(0, -1, 0), *rows], [rows[0], (0, 1, 0), *rows[1:]], [(0, 0, -1), (0, 0, 0), *rows[1:]],
                 [*rows, (7, 1, 100)], [*rows[:3], (7, -1, 0), rows[3]], [(0, 1, 0), *rows[1:]], [(-7, 0, 0), *rows]]
        for told in wrong:
            with self.subTest(told):
                self.assertIs(call(self, paper_right, EXAMPLE, told), False)
                self.assertIs(slow_right(EXAMPLE, told), False)

    def test_numbers(self):
        rows = paper(EXAMPLE)
        for at in range(1, len(rows)):
            for change in (-10 ** 9, -1, 1):
                told = rows[:at] + [(*rows[at][:2], rows[at][2] + change)] + rows[at + 1:]
                # Less is true, too, as long as less is told of all that can follow.
                right = slow_right(EXAMPLE, told)
                self.assertIs(call(self, paper_right, EXAMPLE, told), right)
                self.assertFalse(right and change > 0)
        low = [(position, floats, number - 5) for position, floats, number in rows]
        self.assertIs(paper_right(EXAMPLE, low), True)
        self.assertIs(accepted(EXAMPLE, best_pages(EXAMPLE), low), False)
        high = [(position, floats, number + 1) for position, floats, number in rows]
        self.assertIs(paper_right(EXAMPLE, high), False)

    def test_rows_to_which_no_pages_lead(self):
        # No page leads to the position 2 without the float, but what can follow must be told all the same.
        rows = [line(), end(), gap(), line(), ("float", 0)]
        its_matter = matter(rows, [], [3], height=50)
        told = paper(its_matter)
        self.assertEqual(told, [(0, 0, 0), (2, 0, 10000), (5, 0, 30), (5, 1, 0)])
        more = [*told[:2], (2, 1, 7), *told[2:]]
        self.assertIs(call(self, paper_right, its_matter, more), True)
        self.assertIs(slow_right(its_matter, more), True)
        more[2] = (2, 1, -1)
        self.assertIs(call(self, paper_right, its_matter, more), False)
        # Without the row for the end and the float the second row is wrong.
        self.assertIs(paper_right(its_matter, told[:3]), False)
        self.assertIs(paper_right(its_matter, told[:2] + told[3:]), False)

    def test_unreached_floats_do_not_come_back(self):
        its_matter = matter([line(40), end(), gap(), line(), ("float", 0)], [], [3], height=30)
        self.assertEqual(paper(its_matter), [(0, 0, 0)])
        for rows, right in [([(0, 0, 0)], True), ([(0, 0, 0), (2, 0, 0)], False), ([(0, 0, 0), (5, 1, 0)], True),
                            ([(0, 0, 0), (5, 0, 0)], False), ([(0, 0, 0), (5, 0, 0), (5, 1, 0)], True),
                            ([(0, 0, 0), (5, 0, -1), (5, 1, 0)], False), ([(0, 0, 0), (2, 1, 9), (5, 1, 9)], True),
                            ([(0, 0, 0), (2, 1, 9), (5, 1, 10)], False), ([(0, 0, 0), (0, 1, 9)], True)]:
            with self.subTest(rows):
                self.assertIs(call(self, paper_right, its_matter, rows), right)
                self.assertIs(slow_right(its_matter, rows), right)

    def test_the_beginning(self):
        rows = paper(EXAMPLE)
        for number, right in [(0, True), (1, False), (-1, False), (10 ** 9, False)]:
            self.assertIs(paper_right(EXAMPLE, [(0, 0, number), *rows[1:]]), right)
        self.assertIs(paper_right(EXAMPLE, [(0, 0, -3), (2, 0, 0), (5, 0, 0), (7, 0, 0)]), True)
        self.assertIs(paper_right(matter([]), [(0, 0, -3)]), True)
        self.assertIs(paper_right(matter([]), [(0, 0, 1)]), False)
        self.assertIs(paper_right(matter([]), []), False)

    def test_random_papers(self):
        chance = random.Random(108)
        rights = 0
        for _ in range(1500):
            its_matter = some_matter(chance)
            rows = paper(its_matter)
            if chance.random() < 0.5:
                states = {row[:2]: row[2] for row in rows}
                for first in positions(its_matter):
                    for placed in range(len(its_matter[3]) + 1):
                        if (first, placed) not in states and chance.random() < 0.3:
                            states[first, placed] = chance.choice([-50, 0, 10, 30000])
                        if (first, placed) in states:
                            for page, more in next_pages(its_matter, first, placed):
                                state = (page[2], placed + len(page[3]))
                                number = states[first, placed] + more
                                states[state] = min(number, states.get(state, number))
                rows = [(*state, states[state]) for state in sorted(states)]
            if chance.random() < 0.6:
                at = chance.randrange(len(rows))
                row = list(rows[at])
                row[chance.choice([0, 1, 2, 2, 2])] += chance.choice([-1, 1])
                rows = rows[:at] + [tuple(row)] * chance.choice([0, 1, 1, 1]) + rows[at + 1:]
            right = slow_right(its_matter, rows)
            self.assertIs(call(self, paper_right, its_matter, rows), right, (its_matter, rows))
            rights += right
        self.assertTrue(300 < rights < 1400, rights)

    def test_accepted(self):
        pages, rows = best_pages(EXAMPLE), paper(EXAMPLE)
        self.assertIs(accepted(EXAMPLE, pages, rows), True)
        self.assertIs(accepted(EXAMPLE, pages[:1], rows), False)
        self.assertIs(accepted(EXAMPLE, [("page", 0, 2, ()), ("page", 2, 7, ())], rows), False)
        self.assertIs(accepted(EXAMPLE, pages, [*rows[:3], (7, 0, 6)]), False)
        self.assertIs(accepted(EXAMPLE, pages, [*rows[:2], (5, 0, 6), rows[3]]), False)
        self.assertIs(accepted(EXAMPLE, pages, [rows[0], (2, 0, 10000), *rows[2:]]), True)
        self.assertIs(accepted(EXAMPLE, pages, []), False)
        # A right paper that has no row for the end, since no pages lead there.
        its_matter = matter([line(50)])
        self.assertIs(call(self, accepted, its_matter, [], [(0, 0, 0)]), False)
        self.assertIs(call(self, accepted, its_matter, [("page", 0, 1, ())], [(0, 0, 0), (1, 0, 0)]), False)

    def test_accepted_with_floats(self):
        its_matter = matter([("float", 0), line()], [], [5], height=50)
        pages, rows = best_pages(its_matter), paper(its_matter)
        self.assertEqual((pages, rows), ([("page", 0, 2, (0,))], [(0, 0, 0), (2, 0, 30), (2, 1, 0)]))
        self.assertIs(accepted(its_matter, pages, rows), True)
        # The pages without the float cost what the row without it says, but they are not right.
        self.assertIs(accepted(its_matter, [("page", 0, 2, ())], rows), False)
        self.assertIs(accepted(its_matter, [("page", 0, 2, ()), ("page", 2, 2, (0,))], rows), False)


if __name__ == "__main__":
    unittest.main()

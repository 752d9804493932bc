"""Pages of the least cost, and papers of it (points 10.1 to 10.9)."""

from galleypapers.errors import PageError
from galleypapers.sheets import PageRules

_NEVER = 10000
_ALWAYS = -10000


class Sheets:
    """A matter with what is asked for many pages of it.

    `positions` are in ascending order, and `places` has the index of each among
    them; `furthest` has the index of the last one to which a page from there can
    go. `amounts` tells what the cost at which a page ends adds to that of the page.

    Of the other lists, `sums` and `ahead` have for each index what `_sizes` tells,
    and the number of floats, of all rows ahead of it; `first_lines` the first line
    from there on; and `line_ends` the index behind the last line ahead of it.
    """

    def __init__(self, matter):
        rows, notes, floats, flow = matter[1:]
        self.rules = PageRules(floats, flow)
        self.end = len(rows)
        self.floats = len(floats)
        self.set_sums(rows, notes)
        self.set_positions(rows)
        self.beginning = self.positions[0]
        self.bodies = {}

    def set_sums(self, rows, notes):
        self.sums = [(0, 0, 0, 0, 0)]
        self.ahead = [0]
        self.line_ends = [0]
        for at, row in enumerate(rows):
            sizes = _sizes(row, notes)
            self.sums.append(tuple([old + more for old, more in zip(self.sums[-1], sizes)]))
            self.ahead.append(self.ahead[-1] + (1 if row[0] == "float" else 0))
            self.line_ends.append(at + 1 if row[0] == "line" else self.line_ends[-1])
        self.first_lines = [self.end] * (self.end + 1)
        for at in range(self.end - 1, -1, -1):
            self.first_lines[at] = at if rows[at][0] == "line" else self.first_lines[at + 1]

    def set_positions(self, rows):
        self.positions = _positions(rows)
        self.places = {position: at for at, position in enumerate(self.positions)}
        self.amounts = {position: 0 for position in self.positions}
        self.furthest = {}
        last = len(self.positions) - 1
        for at in range(len(self.positions) - 1, -1, -1):
            position = self.positions[at]
            self.furthest[position] = last
            if 0 < position < self.end:
                if rows[position - 1][1] == _ALWAYS:
                    last = at
                else:
                    self.amounts[position] = rows[position - 1][1]

    def body(self, first, last):
        """Return where a page without floats ends, and its height, stretch and shrink, or None if it is not allowed."""
        start, stop = self.first_lines[first], self.line_ends[last]
        if start >= stop:
            return last, (0, 0, 0)
        sizes = [more - old for old, more in zip(self.sums[start], self.sums[stop])]
        size = self.rules.with_notes(*sizes)
        return None if size is None else (last, size)

    def bodies_behind(self, first):
        """Return all pages without floats that are allowed behind a position."""
        if first not in self.bodies:
            self.bodies[first] = self.found_bodies(first)
        return self.bodies[first]

    def found_bodies(self, first):
        if first == self.end:
            return [self.body(first, first)]
        found = []
        for at in range(self.places[first] + 1, self.furthest[first] + 1):
            body = self.body(first, self.positions[at])
            # Shrunk as far as they can be, pages get no lower with more rows, and neither do notes.
            if body is None:
                break
            found.append(body)
        return found

    def pages_behind(self, first, placed):
        """Return the pages that are allowed behind a position and so many floats.

        Each is the position to which it leads, the number of floats placed then, and its cost.
        """
        found = []
        for last, size in self.bodies_behind(first):
            for stop, cost in self.rules.with_floats(size, placed, self.ahead[last], last == self.end):
                if first < last or placed < stop:
                    found.append((last, stop, cost + self.amounts[last]))
        return found

    def cost_of_page(self, page, first, placed):
        """Return the cost of a page, or None if it is not right behind a position and so many floats."""
        _, start, last, floats = page
        stop = placed + len(floats)
        if start != first or floats != tuple(range(placed, stop)):
            return None
        costs = {(at, many): cost for at, many, cost in self.pages_behind(first, placed)}
        return costs.get((last, stop))


def _sizes(row, notes):
    """Return the height, stretch and shrink of a row, the height of its notes, and their number."""
    if row[0] == "line":
        return row[3] + row[4], 0, 0, sum([notes[number] for number in row[5]]), len(row[5])
    if row[0] == "gap":
        return row[1], row[2], row[3], 0, 0
    return 0, 0, 0, 0, 0


def _positions(rows):
    """Return the positions of a vertical list."""
    if not any([row[0] == "line" for row in rows]):
        return [len(rows)]
    behind = [at + 1 for at, row in enumerate(rows) if row[0] == "cost" and row[1] < _NEVER]
    return [0, *behind, len(rows)]


def _reached(sheets):
    """Find all positions and numbers of floats, the states, that allowed pages reach.

    Each has the least cost, and the state before the last page with it.
    """
    reached = {(sheets.beginning, 0): (0, None)}
    for first in sheets.positions:
        for placed in range(sheets.floats + 1):
            state = (first, placed)
            if state not in reached:
                continue
            told = reached[state][0]
            for last, stop, cost in sheets.pages_behind(first, placed):
                if (last, stop) not in reached or told + cost < reached[(last, stop)][0]:
                    reached[(last, stop)] = (told + cost, state)
    return reached


def best_pages(matter):
    """Return right pages of the least cost, or raise PageError."""
    sheets = Sheets(matter)
    reached = _reached(sheets)
    state = (sheets.end, sheets.floats)
    if state not in reached:
        raise PageError(max([position for position, _ in reached]))
    pages = []
    earlier = reached[state][1]
    while earlier is not None:
        pages.append(("page", earlier[0], state[0], tuple(range(earlier[1], state[1]))))
        state = earlier
        earlier = reached[state][1]
    return pages[::-1]


def total_cost(matter, pages):
    """Return the cost of right pages, or None if they are not right."""
    sheets = Sheets(matter)
    position = sheets.beginning
    placed = 0
    total = 0
    for page in pages:
        cost = sheets.cost_of_page(page, position, placed)
        if cost is None:
            return None
        position = page[2]
        placed += len(page[3])
        total += cost
    return total if (position, placed) == (sheets.end, sheets.floats) else None


def paper(matter):
    """Return the paper with the greatest numbers."""
    reached = _reached(Sheets(matter))
    return [(position, placed, reached[(position, placed)][0]) for position, placed in sorted(reached)]


def paper_right(matter, rows):
    """Tell whether a paper is right."""
    sheets = Sheets(matter)
    told = {(position, placed): number for position, placed, number in rows}
    states = [(position, placed) for position, placed, _ in rows]
    # Rows that are there twice are lost in the dict, so its sorted keys are fewer.
    if states != sorted(told) or told.get((sheets.beginning, 0), 1) > 0:
        return False
    if not all([position in sheets.places and 0 <= placed <= sheets.floats for position, placed in states]):
        return False
    for position, placed in states:
        if not _pages_are_told(sheets, told, position, placed):
            return False
    return True


def _pages_are_told(sheets, told, position, placed):
    """Tell whether the allowed pages behind a row lead to rows whose numbers are not too great."""
    number = told[(position, placed)]
    for last, stop, cost in sheets.pages_behind(position, placed):
        if (last, stop) not in told or told[(last, stop)] > number + cost:
            return False
    return True


def accepted(matter, pages, rows):
    """Tell whether pages are right and a right paper shows that none cost less."""
    cost = total_cost(matter, pages)
    end = (len(matter[1]), len(matter[3]), cost)
    return cost is not None and end in rows and paper_right(matter, rows)

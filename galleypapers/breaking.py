"""Breaking paragraphs into lines at the least cost, and papers of it (points 7.1 to 7.8)."""

from galleypapers.errors import BreakError

_NEVER = 10000
_ALWAYS = -10000
_WORST = 10000
_WORST_SHRUNK = 100
_CLASSES = (0, 1, 2, 3)
_BEGINNING = (-1, 1)


class Paragraph:
    """Items with what is asked for many lines of them.

    The lists `widths`, `stretches` and `shrinks` have for each index the sum of
    all boxes and glue ahead of it. `starts` has the item at which a line begins
    of which all from an index on is left; `stops` the first one from there on at
    which a line must end. The other lists tell of each item whether a line may
    end there, how much wider the line is then, what the cost of the penalty
    adds, and whether it is flagged.
    """

    def __init__(self, items, measure, tolerance, costs):
        self.measure = measure
        self.tolerance = tolerance
        self.for_line, self.for_double, self.for_clash = costs
        self.last = len(items) - 1
        self.widths = [0]
        self.stretches = [0]
        self.shrinks = [0]
        for item in items:
            is_glue = item[0] == "glue"
            self.widths.append(self.widths[-1] + (0 if item[0] == "penalty" else item[1]))
            self.stretches.append(self.stretches[-1] + (item[2] if is_glue else 0))
            self.shrinks.append(self.shrinks[-1] + (item[3] if is_glue else 0))
        self.ends = [_may_end(items, at) for at in range(len(items))]
        self.added = [item[1] if item[0] == "penalty" else 0 for item in items]
        self.charges = [_charge(item) for item in items]
        self.flags = [item[0] == "penalty" and item[3] for item in items]
        self.starts = [len(items)] * (len(items) + 1)
        self.stops = [self.last] * (len(items) + 1)
        for at in range(self.last, -1, -1):
            forced = must_end(items[at])
            self.starts[at] = at if forced or items[at][0] == "box" else self.starts[at + 1]
            self.stops[at] = at if forced else self.stops[at + 1]

    def line_between(self, before, at):
        """Return the class and the cost of a line, a clash aside, or None if it is not feasible."""
        if not before < at <= self.stops[before + 1] or not self.ends[at]:
            return None
        # A line can end ahead of the first box behind the break: then it is empty.
        start = min(self.starts[before + 1], at)
        gap = self.measure - (self.widths[at] - self.widths[start] + self.added[at])
        if gap < 0:
            room = self.shrinks[at] - self.shrinks[start]
            most = max(self.tolerance, _WORST_SHRUNK)
        else:
            room = self.stretches[at] - self.stretches[start]
            most = self.tolerance
        badness = _badness(abs(gap), room)
        if gap + room < 0 or badness > most:
            return None
        cost = (self.for_line + badness) ** 2 + self.charges[at]
        if before >= 0 and self.flags[before] and self.flags[at]:
            cost += self.for_double
        return _line_class(gap, badness), cost

    def lines_behind(self, before):
        """Return (break, class, cost) for each feasible line behind a break, a clash aside."""
        lines = []
        start = self.starts[before + 1]
        for at in range(before + 1, self.stops[before + 1] + 1):
            # Shrunk as far as they can be, lines get no narrower with more items.
            narrow = self.widths[at] - self.widths[start] - (self.shrinks[at] - self.shrinks[start])
            if narrow > self.measure:
                break
            line = self.line_between(before, at)
            if line is not None:
                lines.append((at, line[0], line[1]))
        return lines

    def clash(self, first, second):
        """Return what it costs that a line of a class follows one of another class."""
        return self.for_clash if abs(first - second) > 1 else 0

    def cost_at(self, breaks):
        """Return the cost of breaks, or None if they are not feasible."""
        if not breaks or breaks[-1] != self.last:
            return None
        cost = 0
        before, kind = _BEGINNING
        for at in breaks:
            line = self.line_between(before, at)
            if line is None:
                return None
            cost += line[1] + self.clash(kind, line[0])
            before, kind = at, line[0]
        return cost


def must_end(item):
    """Tell whether a line must end at an item."""
    return item[0] == "penalty" and item[2] == _ALWAYS


def _may_end(items, at):
    item = items[at]
    if item[0] == "penalty":
        return item[2] < _NEVER
    return item[0] == "glue" and at > 0 and items[at - 1][0] == "box"


def _charge(item):
    """Return what the cost of an item adds to that of the line that ends there."""
    if item[0] != "penalty" or item[2] <= _ALWAYS:
        return 0
    return item[2] * abs(item[2])


def _badness(gap, room):
    if gap == 0:
        return 0
    if room == 0:
        return _WORST
    return min(100 * gap ** 3 // room ** 3, _WORST)


def _line_class(gap, badness):
    if badness <= 12:
        return 1
    if gap < 0:
        return 0
    return 2 if badness < 100 else 3


def best_breaks(items, measure, tolerance, costs):
    """Return the least cost, the best breaks, and the least costs of all breaks and classes reached."""
    paragraph = Paragraph(items, measure, tolerance, costs)
    reached = _reached(paragraph)
    ends = [state for state in sorted(reached) if state[0] == paragraph.last]
    if not ends:
        raise BreakError(max([at for at, _ in reached]))
    cost, _ = min([reached[state][0] for state in ends])
    return cost, _least_list(paragraph, reached), {state: reached[state][0][0] for state in reached}


def _reached(paragraph):
    """Find all breaks and classes, the states, that feasible lines from the beginning on reach.

    Each has the pair of the least cost and the least number of lines with it, and
    the list of the breaks at which the line before the last one ends with these.
    """
    reached = {_BEGINNING: ((0, 0), [])}
    for before in range(-1, paragraph.last):
        states = [(before, earlier) for earlier in _CLASSES if (before, earlier) in reached]
        if not states:
            continue
        sums = [min([_ahead(paragraph, reached, one, later) for one in states]) for later in _CLASSES]
        for at, kind, cost in paragraph.lines_behind(before):
            state = (at, kind)
            told = (sums[kind][0] + cost, sums[kind][1] + 1)
            if state not in reached or told < reached[state][0]:
                reached[state] = (told, [before])
            elif told == reached[state][0]:
                reached[state][1].append(before)
    return reached


def _ahead(paragraph, reached, state, later):
    """Return the cost and the number of lines up to a state, with a clash with the class of a later line."""
    cost, many = reached[state][0]
    return cost + paragraph.clash(state[1], later), many


def _least_list(paragraph, reached):
    """Return the least list among the breaks with the least cost and the fewest lines."""
    ends = [state for state in reached if state[0] == paragraph.last]
    least = min([reached[state][0] for state in ends])
    on_the_way = {state: True for state in ends if reached[state][0] == least}
    following = {}
    # From the end on, so the least break that can follow a state is put there last.
    for state in sorted(reached, reverse=True):
        if state in on_the_way:
            for earlier in _states_before(paragraph, reached, state):
                on_the_way[earlier] = True
                following[earlier] = state
    breaks = []
    state = _BEGINNING
    while state in following:
        state = following[state]
        breaks.append(state[0])
    return breaks


def _states_before(paragraph, reached, state):
    """Return the states from which one more line leads to a state with its cost and number of lines."""
    found = []
    for before in reached[state][1]:
        states = [(before, kind) for kind in _CLASSES if (before, kind) in reached]
        sums = [_ahead(paragraph, reached, one, state[1]) for one in states]
        least = min(sums)
        found.extend([one for one, told in zip(states, sums) if told == least])
    return found


def cost_of(items, measure, tolerance, costs, breaks):
    """Return the cost of breaks, or None if they are not feasible."""
    return Paragraph(items, measure, tolerance, costs).cost_at(breaks)


def paper_of(items, measure, tolerance, costs):
    """Return the best breaks, and a right paper for them."""
    _, breaks, reached = best_breaks(items, measure, tolerance, costs)
    return breaks, [(at, kind, reached[(at, kind)]) for at, kind in sorted(reached)]


def judge(items, measure, tolerance, costs, breaks, rows):
    """Tell whether a paper is right for breaks."""
    paragraph = Paragraph(items, measure, tolerance, costs)
    told = {(at, kind): cost for at, kind, cost in rows}
    if len(told) != len(rows) or told.get(_BEGINNING, 1) > 0:
        return False
    if not all([-1 <= at <= paragraph.last and kind in _CLASSES for at, kind in told]):
        return False
    for before in range(-1, paragraph.last):
        if not _lines_are_told(paragraph, told, before):
            return False
    cost = paragraph.cost_at(breaks)
    ends = [told[(paragraph.last, kind)] for kind in _CLASSES if (paragraph.last, kind) in told]
    return cost is not None and ends != [] and cost <= min(ends) - told[_BEGINNING]


def _lines_are_told(paragraph, told, before):
    """Tell whether the feasible lines behind a break lead to rows that do not cost too much."""
    known = [earlier for earlier in _CLASSES if (before, earlier) in told]
    if not known:
        return True
    for at, kind, cost in paragraph.lines_behind(before):
        most = min([told[(before, earlier)] + paragraph.clash(earlier, kind) for earlier in known]) + cost
        if (at, kind) not in told or told[(at, kind)] > most:
            return False
    return True

"""The least costs of paragraphs for each number of lines (point 19.1)."""

from galleypapers.breaking import Paragraph

_CLASSES = (0, 1, 2, 3)
_BEGINNING = (-1, 1)


def by_lines(items, measure, tolerance, costs):
    """Return the number of lines, the least cost and the least breaks, for each number that breaks can have."""
    paragraph = Paragraph(items, measure, tolerance, costs)
    behind = _lines_reached(paragraph)
    rest = _rests(paragraph, behind)
    found = []
    for many, cost in enumerate(rest[_BEGINNING]):
        if cost is not None:
            found.append((many, cost, _least_list(paragraph, behind, rest, many)))
    return found


def _lines_reached(paragraph):
    """Return the feasible lines behind each break that feasible lines from the beginning on reach."""
    behind = {}
    reached = {-1: True}
    for before in range(-1, paragraph.last):
        if before in reached:
            behind[before] = paragraph.lines_behind(before)
            for at, _, _ in behind[before]:
                reached[at] = True
    return behind


def _rests(paragraph, behind):
    """Return for each break and class of the line ahead what the lines behind cost.

    It is a list of the least costs for no line, one line, and so on, or None.
    """
    rest = {(paragraph.last, kind): [0] for kind in _CLASSES}
    for before in sorted(behind, reverse=True):
        of_class = {kind: _with_first_line(behind[before], rest, kind) for kind in _CLASSES}
        for earlier in _CLASSES:
            rest[(before, earlier)] = _least_of(paragraph, of_class, earlier)
    return rest


def _with_first_line(lines, rest, kind):
    """Return the costs of all that begins with one of some lines, of this class alone."""
    costs = []
    for at, its_kind, cost in lines:
        if its_kind == kind:
            later = rest[(at, kind)]
            costs.extend([None] * (len(later) + 1 - len(costs)))
            for many, told in enumerate(later):
                if told is not None and (costs[many + 1] is None or told + cost < costs[many + 1]):
                    costs[many + 1] = told + cost
    return costs


def _least_of(paragraph, of_class, earlier):
    """Return the costs of all that is behind a line of a class, whatever class comes first."""
    costs = [None] * max([len(of_class[kind]) for kind in _CLASSES])
    for kind in _CLASSES:
        clash = paragraph.clash(earlier, kind)
        for many, told in enumerate(of_class[kind]):
            if told is not None and (costs[many] is None or told + clash < costs[many]):
                costs[many] = told + clash
    return costs


def _least_list(paragraph, behind, rest, many):
    """Return the least list of so many breaks with the least cost."""
    breaks = []
    before, earlier = _BEGINNING
    for left in range(many - 1, -1, -1):
        told = rest[(before, earlier)][left + 1]
        for at, kind, cost in behind[before]:
            later = rest[(at, kind)]
            # The lines come in the order of their ends, so the first one that fits is the least.
            if left < len(later) and later[left] is not None:
                if later[left] + cost + paragraph.clash(earlier, kind) == told:
                    breaks.append(at)
                    before, earlier = at, kind
                    break
    return breaks

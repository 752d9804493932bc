"""Slow answers for pages, straight from points 10.2 to 10.9, to compare with."""


def positions(matter):
    rows = matter[1]
    if not [row for row in rows if row[0] == "line"]:
        return [len(rows)]
    return [0] + [at + 1 for at, row in enumerate(rows) if row[0] == "cost" and row[1] < 10000] + [len(rows)]


def slow_page(matter, page, placed):
    """The cost of a page behind so many floats, or None if it is not allowed there."""
    _, rows, notes, floats, flow = matter
    _, first, last, on_it = page
    if first not in positions(matter) or last not in positions(matter) or not (
            first < last or first == last == len(rows) and on_it):
        return None
    between = [at for at in positions(matter) if first < at < last]
    if [at for at in between if rows[at - 1] == ("cost", -10000)]:
        return None
    ahead = [row[1] for row in rows[:last] if row[0] == "float"]
    if list(on_it) != list(range(placed, placed + len(on_it))) or not set(on_it) <= set(ahead) or len(on_it) > flow[6]:
        return None
    lines = [at for at in range(first, last) if rows[at][0] == "line"]
    its_notes = [note for at in lines for note in rows[at][5]]
    gaps = [row[1:] for at, row in enumerate(rows) if row[0] == "gap" and lines and lines[0] < at < lines[-1]]
    gaps += [flow[3]["float"]] * len(on_it) + [flow[3]["note"]] * bool(its_notes)
    height = sum(rows[at][3] + rows[at][4] for at in lines) + sum(gap[0] for gap in gaps)
    height += sum(floats[k] for k in on_it) + sum(notes[k] for k in its_notes)
    stretch, shrink = sum(gap[1] for gap in gaps), sum(gap[2] for gap in gaps)
    room = flow[5] - height
    if room + shrink < 0 or sum(notes[k] for k in its_notes) > flow[7]:
        return None
    if room < 0:
        cost = 100 * (-room) ** 3 // shrink ** 3
    elif room == 0 or last == len(rows):
        cost = 0
    else:
        cost = min(10000, 100 * room ** 3 // stretch ** 3) if stretch else 10000
    if last < len(rows) and rows[last - 1][1] != -10000:
        cost += rows[last - 1][1]
    return cost + flow[4]["late"] * len([k for k in ahead if k >= placed + len(on_it)])


def next_pages(matter, first, placed):
    """All allowed pages behind a position and so many floats, with their costs."""
    found = []
    for last in positions(matter):
        for stop in range(placed, len(matter[3]) + 1):
            page = ("page", first, last, tuple(range(placed, stop)))
            cost = slow_page(matter, page, placed)
            if cost is not None:
                found.append((page, cost))
    return found


def slow_ways(matter):
    """All pages that lead from the beginning on, each with where they lead to and their cost."""
    ways = [([], positions(matter)[0], 0, 0)]
    for pages, first, placed, told in ways:
        for page, cost in next_pages(matter, first, placed):
            ways.append((pages + [page], page[2], placed + len(page[3]), told + cost))
    return ways


def slow_paper(matter):
    """The paper with the greatest numbers."""
    least = {}
    for _, position, placed, cost in slow_ways(matter):
        least[position, placed] = min(cost, least.get((position, placed), cost))
    return [(*state, least[state]) for state in sorted(least)]


def slow_total(matter, pages):
    """The cost of right pages, or None."""
    position, placed, total = positions(matter)[0], 0, 0
    for page in pages:
        cost = slow_page(matter, page, placed)
        if page[1] != position or cost is None:
            return None
        position, placed, total = page[2], placed + len(page[3]), total + cost
    return total if (position, placed) == (len(matter[1]), len(matter[3])) else None


def slow_right(matter, rows):
    """Tell whether a paper is right."""
    if [row[:2] for row in rows] != sorted({row[:2] for row in rows}):
        return False
    told = {row[:2]: row[2] for row in rows}
    if told.get((positions(matter)[0], 0), 1) > 0:
        return False
    for (position, placed), number in told.items():
        if position not in positions(matter) or not 0 <= placed <= len(matter[3]):
            return False
        for page, cost in next_pages(matter, position, placed):
            if told.get((page[2], placed + len(page[3])), number + cost + 1) > number + cost:
                return False
    return True

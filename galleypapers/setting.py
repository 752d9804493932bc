"""Lines set to a measure (points 8.1 to 8.5)."""

from galleypapers.breaking import must_end


def shares(parts, amount):
    """Return the shares of an amount, one for each part."""
    total = sum(parts)
    if total == 0:
        return [0] * len(parts)
    found = []
    ahead = 0
    given = 0
    for part in parts:
        ahead += part
        # Rounding the sums, not the shares, leaves nothing over at the end.
        due = amount * ahead // total
        found.append(due - given)
        given = due
    return found


def _parts(items, before, at):
    """Return the items between two breaks that are left in the line."""
    start = before + 1
    while start < at and items[start][0] != "box" and not must_end(items[start]):
        start += 1
    return items[start:at]


def natural(items, before, at):
    """Return the width, the stretch and the shrink of the line between two breaks."""
    line = _parts(items, before, at)
    glue = [item for item in line if item[0] == "glue"]
    wide = sum([item[1] for item in line if item[0] != "penalty"])
    if items[at][0] == "penalty":
        wide += items[at][1]
    return wide, sum([item[2] for item in glue]), sum([item[3] for item in glue])


def glue_widths(gaps, amount):
    """Return the widths of glue that together gets wider by an amount, or narrower if it is below 0."""
    if amount >= 0:
        more = shares([stretch for _, stretch, _ in gaps], amount)
        return [gap[0] + share for gap, share in zip(gaps, more)]
    shrinks = [shrink for _, _, shrink in gaps]
    less = shares(shrinks, min(-amount, sum(shrinks)))
    return [gap[0] - share for gap, share in zip(gaps, less)]


def moved(rows, left):
    """Return rows with their places counted from an edge so far to the left."""
    return [(x + left, use, glyphs) for x, use, glyphs in rows]


def set_line(items, before, at, measure):
    """Return the line between two breaks, set to a measure as far as its glue allows."""
    line = _parts(items, before, at)
    boxes = [item for item in line if item[0] == "box"]
    gaps = [item[1:] for item in line if item[0] == "glue"]
    wide, _, _ = natural(items, before, at)
    widths = glue_widths(gaps, measure - wide)
    rows = []
    notes = ()
    place = 0
    passed = 0
    for item in line:
        if item[0] == "box":
            rows.extend(moved(item[4], place))
            notes += item[5]
            place += item[1]
        elif item[0] == "glue":
            place += widths[passed]
            passed += 1
    if items[at][0] == "penalty":
        rows.extend(moved(items[at][4], place))
        place += items[at][1]
    height = max([box[2] for box in boxes], default=0)
    depth = max([box[3] for box in boxes], default=0)
    return "set", rows, place, height, depth, notes


def set_lines(items, breaks, measure):
    """Return the lines of items with breaks, each set to a measure."""
    return [set_line(items, before, at, measure) for before, at in zip([-1, *breaks], breaks)]

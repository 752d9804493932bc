"""The vertical list of blocks of lines, floats and new pages (points 9.1 to 9.6)."""

_NEVER = 10000
_ALWAYS = -10000


def flow_of(style):
    """Return the flow of a style."""
    height, leading = style[3:5]
    penalties, gaps, limits = style[8:11]
    of_flow = {"para": gaps["paragraph"]}
    for name in ("item", "above", "below", "note", "float"):
        of_flow[name] = gaps[name]
    costs = {"hyphen": penalties["broken"]}
    for name in ("widow", "orphan", "head", "late"):
        costs[name] = penalties[name]
    return "flow", leading, limits["least"], of_flow, costs, height, limits["floats"], limits["notes"], limits["keep"]


def vertical(blocks, flow):
    """Return the vertical list of blocks."""
    rows = []
    upper = None
    asked = False
    # The floats behind a new page go with the next block of lines.
    waiting = []
    floats = 0
    for at, block in enumerate(blocks):
        if block[0] == "page":
            asked = upper is not None
        elif block[0] == "float":
            if asked:
                waiting.append(("float", floats))
            else:
                rows.append(("float", floats))
            floats += 1
        else:
            if upper is not None:
                rows.extend(_between_blocks(upper, block, asked, flow))
            rows.extend(waiting)
            rows.extend(_block_rows(at, block, flow))
            upper = block
            asked = False
            waiting = []
    return rows + waiting


def line_gap(flow, depth, height):
    """Return the room between the depth of a line and the height of the next one."""
    return max(flow[1] - depth - height, flow[2])


def _block_rows(at, block, flow):
    """Return the rows of a block of lines, which has an index."""
    rows = []
    for number, line in enumerate(block[1]):
        height, depth, notes, _ = line
        if number > 0:
            rows.append(("cost", cost_within(block, number, flow)))
            rows.append(("gap", line_gap(flow, block[1][number - 1][1], height), 0, 0))
        rows.append(("line", at, number, height, depth, notes))
    return rows


def cost_within(block, number, flow):
    """Return what it costs that a page ends ahead of a line of a block, which is not its first one."""
    kind, lines = block
    costs, keep = flow[4], flow[8]
    if kind in ("head", "row") or number < keep or len(lines) - number < keep:
        return _NEVER
    cost = 0
    if lines[number - 1][3]:
        cost += costs["hyphen"]
    if number == 1:
        cost += costs["orphan"]
    if number == len(lines) - 1:
        cost += costs["widow"]
    return cost


def _between_blocks(upper, lower, asked, flow):
    """Return the cost and the gap between two blocks of lines; a new page may be asked for there."""
    height, stretch, shrink = gap_between(upper[0], lower[0], flow[3])
    height += line_gap(flow, upper[1][-1][1], lower[1][0][0])
    return [("cost", cost_between(upper[0], lower[0], asked, flow)), ("gap", height, stretch, shrink)]


def cost_between(upper, lower, asked, flow):
    """Return what it costs that a page ends between blocks of two kinds; a new page may be asked for there."""
    if asked:
        return _ALWAYS
    if upper == "head":
        return _NEVER
    return flow[4]["head"] if lower == "head" else 0


def gap_between(upper, lower, gaps):
    """Return the gap between blocks of two kinds, without the room between their lines."""
    if lower == "head":
        return gaps["above"]
    if upper == "head":
        return gaps["below"]
    if upper == lower and upper in ("item", "row"):
        return gaps["item"]
    return gaps["para"]

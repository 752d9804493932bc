"""Slow answers for lines and pages together, over all choices, straight from points 20.1 to 20.3."""

import itertools

from galleypapers.vertical import vertical
from tests import slow_pages


def counts(blocks):
    """The numbers of variants of the blocks of lines."""
    return [len(block[1]) for block in blocks if len(block) > 1]


def choices(blocks):
    return [list(choice) for choice in itertools.product(*[range(many) for many in counts(blocks)])]


def matter_of(blocks, notes, floats, flow, choice):
    """The matter of the blocks with the chosen lines."""
    left = iter(choice)
    chosen = [(block[0], block[1][next(left)][1]) if len(block) > 1 else block for block in blocks]
    return ("matter", vertical(chosen, flow), notes, floats, flow)


def lines_of(matter):
    """For each block of lines in order its index in the list, and its indexes of rows."""
    found = {}
    for at, row in enumerate(matter[1]):
        if row[0] == "line":
            found.setdefault(row[1], []).append(at)
    return [found[key] for key in sorted(found)]


def node_at(matter, position, choice):
    """The node at a position."""
    for block, rows in enumerate(lines_of(matter)):
        for line, at in enumerate(rows):
            if at >= position:
                return (block, choice[block] if line else 0, line)
    return (len(choice), 0, 0)


def cost_up_to(blocks, choice, node):
    """The costs of the variants of the blocks that begin ahead of a node."""
    many = node[0] + (1 if node[2] else 0)
    variants = [block[1] for block in blocks if len(block) > 1]
    return sum(variants[at][choice[at]][0] for at in range(many))


def slow_paper(blocks, notes, floats, flow):
    """The paper with the greatest costs."""
    least = {}
    for choice in choices(blocks):
        matter = matter_of(blocks, notes, floats, flow, choice)
        for position, placed, cost in slow_pages.slow_paper(matter):
            node = node_at(matter, position, choice)
            key = (*node, placed)
            cost += cost_up_to(blocks, choice, node)
            least[key] = min(cost, least.get(key, cost))
    return [(*key, least[key]) for key in sorted(least)]


def nodes_of(blocks):
    variants = [block[1] for block in blocks if len(block) > 1]
    found = {(len(variants), 0, 0)}
    for block, its_variants in enumerate(variants):
        found.add((block, 0, 0))
        for variant, (_, lines) in enumerate(its_variants):
            found |= {(block, variant, line) for line in range(1, len(lines))}
    return found


def position_of(matter, node):
    """The position at which a page begins with a node."""
    block, _, line = node
    if block == len(lines_of(matter)):
        return len(matter[1])
    at = lines_of(matter)[block][line]
    while at > 0 and matter[1][at - 1][0] != "cost":
        at -= 1
    return at


def pages_behind(blocks, notes, floats, flow, node, placed):
    """All pages from a node, with any variants: (node behind them, floats placed then, cost)."""
    found = []
    for choice in choices(blocks):
        if node[2] and choice[node[0]] != node[1]:
            continue
        name, rows, *more = matter_of(blocks, notes, floats, flow, choice)
        first = position_of((name, rows, *more), node)
        if 0 < first < len(rows):
            # Whatever the cost of the page end there, a page begins at the node.
            rows = rows[:first - 1] + [("cost", 0)] + rows[first:]
        matter = (name, rows, *more)
        for page, cost in slow_pages.next_pages(matter, first, placed):
            later = node_at(matter, page[2], choice)
            cost += cost_up_to(blocks, choice, later) - cost_up_to(blocks, choice, node)
            found.append((later, placed + len(page[3]), cost))
    return found


def slow_right(blocks, notes, floats, flow, rows):
    """Tell whether a paper is right."""
    told = {row[:4]: row[4] for row in rows}
    if len(told) < len(rows) or told.get((0, 0, 0, 0), 1) > 0:
        return False
    for *node, placed in told:
        if tuple(node) not in nodes_of(blocks) or not 0 <= placed <= len(floats):
            return False
        for later, stop, cost in pages_behind(blocks, notes, floats, flow, tuple(node), placed):
            most = told[(*node, placed)] + cost
            if told.get((*later, stop), most + 1) > most:
                return False
    return True

"""Lines and pages together at the least cost, and papers of it (points 20.1 to 20.3)."""

from heapq import heappop, heappush

from galleypapers.errors import PageError
from galleypapers.sheets import PageRules
from galleypapers.vertical import cost_between, cost_within, gap_between, line_gap

_NEVER = 10000
_BEGINNING = (0, 0, 0)


class Joint:
    """Blocks of lines with variants, floats and new pages, and what is asked for the pages of them.

    `ahead` and `before` have for each block of lines, and for the end, the numbers
    of floats whose place is ahead of the cost above the block, and ahead of its
    lines; `asked` tells whether a new page is asked for above it. `least` has what
    the variants of so many blocks cost at least, counted from the last one.
    """

    def __init__(self, blocks, notes, floats, flow):
        self.notes = notes
        self.flow = flow
        self.floats = len(floats)
        self.rules = PageRules(floats, flow)
        self.blocks = []
        self.asked = []
        self.ahead = []
        self.before = []
        self.set_places(blocks)
        self.least = [0]
        for _, variants in self.blocks[::-1]:
            self.least.append(self.least[-1] + min([cost for cost, _ in variants]))
        self.end = (len(self.blocks), 0, 0)
        self.amounts = {}
        self.bodies = {}

    def set_places(self, blocks):
        asked = False
        ahead = 0
        before = 0
        for block in blocks:
            if block[0] == "page":
                asked = self.blocks != []
            elif block[0] == "float":
                before += 1
                # The place of a float behind a new page is behind the cost there.
                ahead += 0 if asked else 1
            else:
                self.asked.append(asked)
                self.ahead.append(ahead)
                self.before.append(before)
                self.blocks.append(block)
                asked = False
                ahead = before
        self.ahead.append(before)

    def nodes(self):
        """Return all nodes, ascending; pages lead from each of them to later ones alone, or to itself at the end."""
        found = []
        for block, (_, variants) in enumerate(self.blocks):
            found.append((block, 0, 0))
            for variant, (_, lines) in enumerate(variants):
                found.extend([(block, variant, line) for line in range(1, len(lines))])
        return [*found, self.end]

    def amount(self, node):
        """Return what the cost at which a page ends adds to that of the page, or None if it may not end there."""
        if node not in self.amounts:
            self.amounts[node] = self.found_amount(node)
        return self.amounts[node]

    def found_amount(self, node):
        block, variant, line = node
        if node == self.end or line == 0 and self.asked[block]:
            return 0
        kind, variants = self.blocks[block]
        if line == 0:
            amount = cost_between(self.blocks[block - 1][0], kind, False, self.flow)
        else:
            amount = cost_within((kind, variants[variant][1]), line, self.flow)
        return amount if amount < _NEVER else None

    def floats_ahead(self, node):
        """Return the number of floats that have their place ahead of a node."""
        return self.ahead[node[0]] if node[2] == 0 else self.before[node[0]]

    def least_behind(self, node):
        """Return what the variants of the blocks that begin behind a node cost at least."""
        begun = node[0] if node[2] == 0 else node[0] + 1
        return self.least[len(self.blocks) - begun]

    def bodies_behind(self, node):
        """Return all pages without floats that are allowed behind a node, one row for each node behind them.

        It is this node, the number of floats ahead of it, the least cost without
        floats with the indexes of the variants that have it, and all heights,
        stretches and shrinks, with their costs but for the badness, and indexes.
        """
        if node not in self.bodies:
            walk = Walk(self)
            walk.go_from(node)
            self.bodies[node] = [self.bodies_to(later, walk.found[later]) for later in sorted(walk.found)]
        return self.bodies[node]

    def bodies_to(self, later, sizes):
        amount = self.amount(later)
        told = [(size, sizes[size][0] + amount, sizes[size][1]) for size in sizes]
        at_end = later == self.end
        costs = [(cost + self.rules.cost_with(size, 0, 0, at_end), chosen) for size, cost, chosen in told]
        return later, self.floats_ahead(later), min(costs), told

    def pages_behind(self, node, placed):
        """Return the pages that are allowed behind a node and so many floats, the best ones to each node.

        Each is the node to which it leads, the number of floats placed then, its
        cost with that of the variants that begin on it, and the indexes of these.
        """
        found = {}
        for later, ahead, least, sizes in self.bodies_behind(node):
            if placed >= ahead:
                # No float is late, and none can be placed: with any sizes, the page has none.
                if later != node:
                    found[(later, placed)] = least
                continue
            for size, told, chosen in sizes:
                for stop, cost in self.rules.with_floats(size, placed, ahead, later == self.end):
                    if later != node or placed < stop:
                        _keep_least(found, (later, stop), (told + cost, chosen))
        return [(later, stop, *found[(later, stop)]) for later, stop in found]


def _keep_least(table, key, told):
    """Put something in a dict, unless there is something less."""
    if key not in table or told < table[key]:
        table[key] = told


class Walk:
    """The way on from a node, block by block, with all variants, as far as a page goes.

    `found` has for each node to which a page leads its heights, stretches and
    shrinks. For each of these it has the least cost of the variants that begin on
    the page, and the indexes of these.
    """

    def __init__(self, joint):
        self.joint = joint
        self.found = {}

    def go_from(self, node):
        """Find all pages without floats that are allowed behind a node."""
        joint = self.joint
        if node == joint.end:
            self.found[node] = {(0, 0, 0): (0, ())}
            return
        states = self.first_states(node)
        for block in range(node[0] + 1, len(joint.blocks)):
            self.reach_all((block, 0, 0), states)
            if joint.asked[block] or not states:
                return
            states = self.states_behind(block, states)
        self.reach_all(joint.end, states)

    def first_states(self, node):
        """Return the states behind the first block of a page."""
        block, _, line = node
        states = {}
        beginning = (0, 0, 0, 0, 0)
        if line > 0:
            self.go_through(node, beginning, (0, ()), states)
            return states
        for at, (cost, _) in enumerate(self.joint.blocks[block][1]):
            self.go_through((block, at, 0), beginning, (cost, (at,)), states)
        return states

    def states_behind(self, block, states):
        """Return the states behind one more block.

        A state is the depth of the last line, and the height, stretch and shrink of
        the page, the height of its notes and their number.
        """
        joint = self.joint
        kind, variants = joint.blocks[block]
        gap = gap_between(joint.blocks[block - 1][0], kind, joint.flow[3])
        later = {}
        for depth, size in states:
            cost, chosen = states[(depth, size)]
            for at, (more, lines) in enumerate(variants):
                room = gap[0] + line_gap(joint.flow, depth, lines[0][0])
                begun = (size[0] + room, size[1] + gap[1], size[2] + gap[2], size[3], size[4])
                self.go_through((block, at, 0), begun, (cost + more, (*chosen, at)), later)
        return later

    def go_through(self, node, size, told, states):
        """Go through the lines of a variant from a node on; if its end is reached, add a state."""
        joint = self.joint
        block, variant, first = node
        lines = joint.blocks[block][1][variant][1]
        height, stretch, shrink, note_heights, notes = size
        for at in range(first, len(lines)):
            if at > first:
                self.reach((block, variant, at), (height, stretch, shrink, note_heights, notes), told)
                height += line_gap(joint.flow, lines[at - 1][1], lines[at][0])
            height += lines[at][0] + lines[at][1]
            note_heights += sum([joint.notes[number] for number in lines[at][2]])
            notes += len(lines[at][2])
            # Shrunk as far as they can be, pages get no lower with more lines, and neither do notes.
            if joint.rules.with_notes(height, stretch, shrink, note_heights, notes) is None:
                return
        _keep_least(states, (lines[-1][1], (height, stretch, shrink, note_heights, notes)), told)

    def reach_all(self, node, states):
        """Have pages end at a node behind a block, with any of the states there."""
        for depth, size in states:
            self.reach(node, size, states[(depth, size)])

    def reach(self, node, size, told):
        """Have a page end at a node, if it may."""
        joint = self.joint
        if joint.amount(node) is not None:
            _keep_least(self.found.setdefault(node, {}), joint.rules.with_notes(*size), told)


def _reached(joint, goal):
    """Find nodes and numbers of floats that allowed pages reach, the states, up to a goal, or all if there is none.

    Each has the least cost, the state before the last page with it, and the indexes
    of the variants that begin on this page.
    """
    reached = {(_BEGINNING, 0): (0, None, ())}
    # States with the least sum of their cost and what the blocks behind cost at least
    # come first. So, if nothing costs less than 0, their costs are the least ones then.
    queue = [(0, _BEGINNING, 0, 0)]
    while queue:
        _, node, placed, told = heappop(queue)
        state = (node, placed)
        if told > reached[state][0]:
            continue
        if state == goal:
            return reached
        for later, stop, cost, chosen in joint.pages_behind(node, placed):
            total = told + cost
            if (later, stop) not in reached or total < reached[(later, stop)][0]:
                reached[(later, stop)] = (total, state, chosen)
                heappush(queue, (total + joint.least_behind(later), later, stop, total))
    return reached


def best_choices(blocks, notes, floats, flow):
    """Return the least cost of all choices and pages, and a choice with it, or raise PageError."""
    joint = Joint(blocks, notes, floats, flow)
    state = (joint.end, joint.floats)
    goal = None if min(list(flow[4].values())) < 0 else state
    reached = _reached(joint, goal)
    if state not in reached:
        raise PageError(max([node[0] for node, _ in reached]))
    cost = reached[state][0]
    choice = []
    while state is not None:
        _, state, chosen = reached[state]
        choice = [*chosen, *choice]
    return cost, choice


def paper(blocks, notes, floats, flow):
    """Return a right paper with the greatest costs."""
    reached = _reached(Joint(blocks, notes, floats, flow), None)
    return [(*node, placed, reached[(node, placed)][0]) for node, placed in sorted(reached)]


def paper_right(blocks, notes, floats, flow, rows):
    """Tell whether a paper is right."""
    joint = Joint(blocks, notes, floats, flow)
    told = {((block, variant, line), placed): cost for block, variant, line, placed, cost in rows}
    if len(told) != len(rows) or told.get((_BEGINNING, 0), 1) > 0:
        return False
    nodes = {node: True for node in joint.nodes()}
    if not all([node in nodes and 0 <= placed <= joint.floats for node, placed in told]):
        return False
    for node, placed in told:
        most = told[(node, placed)]
        for later, stop, cost, _ in joint.pages_behind(node, placed):
            if (later, stop) not in told or told[(later, stop)] > most + cost:
                return False
    return True

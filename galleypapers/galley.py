"""Galleys: layouts of documents, made in rounds until they settle (points 15.1 to 15.6)."""

from galleypapers.breaking import paper_of
from galleypapers.errors import CircleError
from galleypapers.items import items_of
from galleypapers.pages import placed
from galleypapers.paging import best_pages
from galleypapers.references import numbers_of, sources
from galleypapers.setting import set_lines
from galleypapers.styles import line_costs
from galleypapers.tables import row_made
from galleypapers.vertical import flow_of, line_gap, vertical

_MOST_ROUNDS = 12
# What is left of the last page goes behind its lines, ahead of its notes.
_FILL = ("gap", 0, 10000000, 0)


class Made:
    """What is made of a source: its items, breaks, paper and lines, and the sources of its notes."""

    def __init__(self, source, parts, breaks, paper, lines, notes):
        self.source = source
        self.parts = parts
        self.breaks = breaks
        self.paper = paper
        self.lines = lines
        self.notes = notes


def made(style, source):
    """Return what is made of a source, other than a new page, or raise GlyphError or BreakError."""
    kind, runs, use, room, first_note = source[:5]
    if kind == "row":
        lines, notes = row_made(style, runs, room, first_note)
        return Made(source, [], [], [], lines, _note_sources(notes))
    parts, notes = items_of(style, runs, use, room, first_note)
    breaks, paper = paper_of(parts, style[2], style[7], line_costs(style))
    return Made(source, parts, breaks, paper, set_lines(parts, breaks, style[2]), _note_sources(notes))


def _note_sources(notes):
    return [("note", [("text", "text", f"{number} "), *runs], "note", 0, number) for number, runs in notes]


class Known:
    """What has been made of sources with one style, to be used again."""

    def __init__(self):
        self.count = 0
        self.found = {}

    def make(self, style, source):
        """Return what is made of a source; for equal sources it is made once."""
        # Sources contain lists, so they are no keys; what they are written as is one.
        key = repr(source)
        if key not in self.found:
            self.found[key] = made(style, source)
            self.count += 1
        return self.found[key]


def all_made(style, found, known):
    """Return what is made of sources, None for new pages, and what is made of their notes."""
    ones = []
    notes = []
    for source in found:
        if source[0] == "page":
            ones.append(None)
        else:
            one = known.make(style, source)
            ones.append(one)
            notes.extend([known.make(style, note) for note in one.notes])
    return ones, notes


class Layout:
    """What is made of sources, put on pages of the least cost."""

    def __init__(self, style, table, ones, notes):
        self.table = table
        self.flow = flow_of(style)
        self.made = [one for one in ones if one is not None]
        self.notes = [stack_of(self.flow, one.lines) for one in notes]
        self.floats = [float_stack(self.flow, one) for one in self.made if one.source[0] == "float"]
        self.blocks = [_block(one) for one in ones]
        heights = [[stack_height(stack) for stack in stacks] for stacks in (self.notes, self.floats)]
        self.matter = ("matter", vertical(self.blocks, self.flow), *heights, self.flow)
        self.pages = best_pages(self.matter)
        self.placed = [self.placed_page(at, ones) for at in range(len(self.pages))]

    def placed_page(self, at, ones):
        """Return the page with an index, with the places of its rows."""
        _, first, last, floats = self.pages[at]
        stack = []
        for number in floats:
            stack.extend([*self.floats[number], ("gap", *self.flow[3]["float"])])
        notes = []
        for row in _from_line_to_line(self.matter[1][first:last]):
            if row[0] == "line":
                stack.append(_stack_row(ones[row[1]].lines[row[2]]))
                notes.extend(row[5])
            elif row[0] == "gap":
                stack.append(row)
        if last == len(self.matter[1]):
            stack.append(_FILL)
        if notes:
            stack.append(("gap", *self.flow[3]["note"]))
        for number in sorted(notes):
            stack.extend(self.notes[number])
        return ("page", at + 1, placed(stack, self.flow[5]))


def _from_line_to_line(rows):
    """Return the rows from the first line to the last one."""
    lines = [at for at, row in enumerate(rows) if row[0] == "line"]
    return rows[lines[0]:lines[-1] + 1] if lines else []


def _stack_row(line):
    """Return the row of a stack for a set line."""
    _, rows, _, height, depth, _ = line
    return ("row", height, depth, rows)


def stack_of(flow, lines):
    """Return the stack of set lines."""
    stack = []
    for at, line in enumerate(lines):
        if at > 0:
            stack.append(("gap", line_gap(flow, lines[at - 1][4], line[3]), 0, 0))
        stack.append(_stack_row(line))
    return stack


def float_stack(flow, one):
    """Return the stack of what is made of the source of a float."""
    return [("gap", one.source[5], 0, 0), *stack_of(flow, one.lines)]


def stack_height(stack):
    """Return the height of a stack without stretch."""
    return sum([part[1] + part[2] if part[0] == "row" else part[1] for part in stack])


def _block(one):
    """Return the block of lines, the float or the new page that stands for what is made of a source."""
    if one is None:
        return ("page",)
    kind = one.source[0]
    if kind == "float":
        return ("float",)
    return (kind, block_lines(one.parts, one.breaks, one.lines))


def block_lines(parts, breaks, lines):
    """Return the lines of a block for set lines; those of rows of tables have no breaks."""
    if not breaks:
        return [_block_line(line, False) for line in lines]
    return [_block_line(line, _is_hyphenated(parts[at])) for line, at in zip(lines, breaks)]


def _block_line(line, hyphenated):
    _, _, _, height, depth, notes = line
    return (height, depth, tuple([number - 1 for number in notes if number > 0]), hyphenated)


def _is_hyphenated(item):
    """Tell whether a line that ends at an item ends with a hyphen that is not in the text."""
    return item[0] == "penalty" and item[4] != []


def laid_out(document, style, table, known):
    """Return the layout of a document for a table."""
    found, _ = sources(document, style, table)
    ones, notes = all_made(style, found, known)
    return Layout(style, table, ones, notes)


def table_of(document, layout):
    """Return the table of a layout: the page of each entry of the order of the document."""
    line_pages = {}
    pages = {"head": [], "float": [], "mark": []}
    for at, (_, first, last, floats) in enumerate(layout.pages):
        pages["float"].extend([at + 1] * len(floats))
        for row in layout.matter[1][first:last]:
            if row[0] == "line":
                line_pages[(row[1], row[2])] = at + 1
    places = [at for at, block in enumerate(layout.blocks) if block[0] != "page"]
    for at, one in zip(places, layout.made):
        if one.source[0] == "head":
            pages["head"].append(line_pages[(at, 0)])
        elif one.source[0] != "float":
            pages["mark"].extend([line_pages[(at, line)] for line in _lines_of_marks(one)])
    return [pages[kind][index] for kind, index in numbers_of(document).order]


def _lines_of_marks(one):
    """Return the indexes of the lines of the marks of the index in a source, mark by mark."""
    runs = one.source[1]
    if one.source[0] == "row":
        # Marks have the same numbers in all cells, but a row of a table stands on one page.
        return [0 for cell in runs for run in cell if run[0] == "mark"]
    places = {number: at for at, line in enumerate(one.lines) for number in line[5]}
    many = len([run for run in runs if run[0] == "mark"])
    return [places[-number] for number in range(1, many + 1)]


def build_from(document, style, known):
    """Return the layout that settles and the tables of all rounds, or raise CircleError."""
    tables = [[0] * len(numbers_of(document).order)]
    while True:
        layout = laid_out(document, style, tables[-1], known)
        table = table_of(document, layout)
        if table == layout.table:
            return layout, tables
        circle = table in tables or len(tables) == _MOST_ROUNDS
        tables.append(table)
        if circle:
            raise CircleError(tables)


def build(document, style):
    """Return the layout of a document that settles and the tables of all rounds."""
    return build_from(document, style, Known())

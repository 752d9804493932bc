"""Tables: the widths of their columns, and the lines of their rows (points 17.1 to 17.6)."""

from galleypapers.breaking import best_breaks
from galleypapers.errors import BreakError, TableError
from galleypapers.items import items_of
from galleypapers.setting import moved, set_lines
from galleypapers.styles import line_costs

# The columns of a table have so many units of the grid together.
_UNITS = 8


def column_gap(style):
    """Return the gap between two columns."""
    return 2 * style[6][0]


def unit_of(style, columns):
    """Return the unit of the grid for some columns."""
    return (style[2] - (columns - 1) * column_gap(style)) // _UNITS


def widths_fit(style, widths):
    """Tell whether the widths of columns are on the grid."""
    unit = unit_of(style, len(widths))
    if unit < 1 or sum(widths) != _UNITS * unit:
        return False
    return all([wide >= unit and wide % unit == 0 for wide in widths])


def _cell_items(style, runs, first_note):
    """Return the items of a cell, and its notes; its words are not divided by patterns."""
    plain = style[:11] + (("hyphens", [], [], 1, 1),)
    return items_of(plain, runs, "", 0, first_note)


def _cell_breaks(style, items, wide):
    """Return the best breaks of the items of a cell at a width, or raise BreakError."""
    return best_breaks(items, wide, style[7], line_costs(style))[1]


def _line_count(style, items, wide):
    """Return the number of lines of a cell at a width, or None if it cannot be broken."""
    try:
        return len(_cell_breaks(style, items, wide))
    except BreakError:
        return None


def table_cost(style, rows, widths):
    """Return the cost of a table at some widths, or None if it has none."""
    total = 0
    for cells in rows:
        made = [_cell_items(style, runs, 1)[0] for runs in cells]
        counts = [_line_count(style, items, wide) for items, wide in zip(made, widths)]
        if None in counts:
            return None
        total += max(counts)
    return total


def table_widths(style, rows):
    """Return the best widths of a table, or raise TableError."""
    columns = len(rows[0])
    unit = unit_of(style, columns)
    if unit < 1:
        raise TableError(-1)
    counts = [[_counts(style, runs, unit, columns) for runs in cells] for cells in rows]
    best = None
    least = None
    for units in _divisions(columns):
        cost = _cost_in(counts, units)
        if cost is not None and (least is None or cost < least):
            best = units
            least = cost
    if best is None:
        raise TableError(_first_too_narrow(counts, columns))
    return [unit * many for many in best]


def _counts(style, runs, unit, columns):
    """Return the numbers of lines of a cell at the widths of 1 unit up to the most that a column can have."""
    items, _ = _cell_items(style, runs, 1)
    return [_line_count(style, items, unit * many) for many in range(1, _UNITS - columns + 2)]


def _divisions(columns):
    """Return all lists of the units that columns can have, in ascending order."""
    found = [[]]
    for behind in range(columns - 1, 0, -1):
        # Each of the columns behind has at least one unit.
        found = [[*units, more] for units in found for more in range(1, _UNITS - sum(units) - behind + 1)]
    return [[*units, _UNITS - sum(units)] for units in found]


def _cost_in(counts, units):
    """Return the cost of a table with so many units for its columns, or None if it has none."""
    total = 0
    for cells in counts:
        lines = [numbers[many - 1] for numbers, many in zip(cells, units)]
        if None in lines:
            return None
        total += max(lines)
    return total


def _first_too_narrow(counts, columns):
    """Return the first column with a cell that cannot be broken at its greatest width, or the number of columns."""
    for column in range(columns):
        if None in [cells[column][-1] for cells in counts]:
            return column
    return columns


def row_made(style, cells, widths, first_note):
    """Return the lines of a row of a table, and its notes, or raise BreakError."""
    notes = []
    made = []
    edges = []
    edge = 0
    for runs, wide in zip(cells, widths):
        items, own = _cell_items(style, runs, first_note + len(notes))
        notes.extend(own)
        made.append(set_lines(items, _cell_breaks(style, items, wide), wide))
        edges.append(edge)
        edge += wide + column_gap(style)
    right = edge - column_gap(style)
    most = max([len(lines) for lines in made])
    return [_joined_line(made, edges, at, right) for at in range(most)], notes


def _joined_line(made, edges, at, right):
    """Return the line that joins those of the cells of a row with an index."""
    rows = []
    notes = ()
    height = 0
    depth = 0
    for lines, left in zip(made, edges):
        if at < len(lines):
            _, its_rows, _, its_height, its_depth, its_notes = lines[at]
            rows.extend(moved(its_rows, left))
            notes += its_notes
            height = max(height, its_height)
            depth = max(depth, its_depth)
    return "set", rows, right, height, depth, notes

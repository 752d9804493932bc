"""Layouts whose lines and pages are chosen together (point 20.4)."""

from galleypapers.breaking import cost_of
from galleypapers.galley import Layout, Made, all_made, block_lines, float_stack, stack_height, stack_of
from galleypapers.joint import best_choices
from galleypapers.looseness import by_lines
from galleypapers.paging import total_cost
from galleypapers.references import sources
from galleypapers.setting import set_lines
from galleypapers.styles import line_costs
from galleypapers.vertical import flow_of


def _may_vary(one):
    """Tell whether what is made of a source is a paragraph or an item."""
    return one.source[0] in ("para", "item")


def variants_of(style, made, spread):
    """Return the costs, lines and breaks of the variants of what is made of a source."""
    if not _may_vary(made):
        return [(0, made.lines, made.breaks)]
    rows = by_lines(made.parts, style[2], style[7], line_costs(style))
    _, best = min([(cost, many) for many, cost, _ in rows])
    found = [(cost, breaks) for many, cost, breaks in rows if abs(many - best) <= spread]
    return [(cost, set_lines(made.parts, breaks, style[2]), breaks) for cost, breaks in found]


def laid_out_jointly(document, style, table, known, spread):
    """Return the layout of a document for a table with chosen variants."""
    found, _ = sources(document, style, table)
    ones, notes = all_made(style, found, known)
    flow = flow_of(style)
    variants = [[] if one is None else variants_of(style, one, spread) for one in ones]
    blocks = [_block(one, its_variants) for one, its_variants in zip(ones, variants)]
    note_heights = [stack_height(stack_of(flow, one.lines)) for one in notes]
    floats = [float_stack(flow, one) for one in ones if one is not None and one.source[0] == "float"]
    _, choice = best_choices(blocks, note_heights, [stack_height(stack) for stack in floats], flow)
    chosen = []
    passed = 0
    for one, block, its_variants in zip(ones, blocks, variants):
        at = 0
        if block[0] not in ("page", "float"):
            at = choice[passed]
            passed += 1
        chosen.append(None if one is None else _with_variant(one, its_variants[at]))
    return Layout(style, table, chosen, notes)


def _block(one, variants):
    """Return the block with the variants of what is made of a source, a float, or a new page."""
    if one is None:
        return ("page",)
    kind = one.source[0]
    if kind == "float":
        return ("float",)
    return (kind, [(cost, block_lines(one.parts, breaks, lines)) for cost, lines, breaks in variants])


def _with_variant(one, variant):
    """Return what is made of a source with the breaks and lines of a variant."""
    _, lines, breaks = variant
    return Made(one.source, one.parts, breaks, [], lines, one.notes)


def layout_cost(style, layout):
    """Return the cost of the breaks of the paragraphs and items of a layout, and of its pages."""
    total = total_cost(layout.matter, layout.pages)
    for one in layout.made:
        if _may_vary(one):
            total += cost_of(one.parts, style[2], style[7], line_costs(style), one.breaks)
    return total

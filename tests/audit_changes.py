"""Random changes of pages that have no fault, so that many of them have one."""

from copy import deepcopy

from galleypapers.fonts import SOFT


def numbered(pages):
    return [("page", at + 1, page[2]) for at, page in enumerate(pages)]


def some_line(chance, pages):
    """A page with rows, and the baseline of one of its lines."""
    page = chance.choice([page for page in pages if page[2]])
    return page, chance.choice(sorted({row[1] for row in page[2]}))


def move_lines(chance, pages):
    """Move a line, or all lines from one on, up or down."""
    page, y = some_line(chance, pages)
    by = chance.choice([-6, -3, -2, -1, 1, 2, 3, 6, 30])
    alone = chance.random() < .3
    page[2][:] = [(row[0], row[1] + by * (row[1] == y or row[1] > y and not alone), *row[2:]) for row in page[2]]


def move_row(chance, pages):
    page, _ = some_line(chance, pages)
    at = chance.randrange(len(page[2]))
    row = page[2][at]
    page[2][at] = (row[0] + chance.choice([-40, -5, -1, 1, 5, 40]), *row[1:])


def indent_line(chance, pages):
    page, y = some_line(chance, pages)
    by = chance.choice([-3, 1, 4])
    page[2][:] = [(row[0] + by * (row[1] == y), *row[1:]) for row in page[2]]


def drop_row(chance, pages):
    page, _ = some_line(chance, pages)
    del page[2][chance.randrange(len(page[2]))]


def drop_line(chance, pages):
    page, y = some_line(chance, pages)
    page[2][:] = [row for row in page[2] if row[1] != y]


def split_row(chance, pages):
    """Set the glyphs of a row in two rows."""
    page, _ = some_line(chance, pages)
    at = chance.randrange(len(page[2]))
    x, y, use, glyphs = page[2][at]
    if len(glyphs) > 1:
        cut = chance.randrange(1, len(glyphs))
        wide = {"text": 10, "strong": 12, "note": 6, "head1": 14, "head2": 12}.get(use, 10)
        page[2][at:at + 1] = [(x, y, use, glyphs[:cut]), (x + cut * wide, y, use, glyphs[cut:])]


def change_glyphs(chance, pages):
    page, _ = some_line(chance, pages)
    x, y, use, glyphs = row = chance.choice(page[2])
    new = chance.choice([glyphs + [SOFT], glyphs[:-1], glyphs + ["a"], ["b"] + glyphs[1:], [SOFT] + glyphs, ["ab"]])
    use = chance.choice([use, use, use, "strong", "note", "other"])
    page[2][page[2].index(row)] = (x, y, use, new)


def swap_pages(chance, pages):
    at = chance.randrange(len(pages))
    pages[0], pages[at] = pages[at], pages[0]
    if chance.random() < .8:
        pages[:] = numbered(pages)


def cut_page(chance, pages):
    """Put the lines of a page from one on on a page of their own, or ahead of the lines of the next page."""
    page, y = some_line(chance, pages)
    at = pages.index(page)
    rest = [(*row[:1], row[1] - y + 7, *row[2:]) for row in page[2] if row[1] >= y]
    last = max(row[1] for row in rest)
    page[2][:] = [row for row in page[2] if row[1] < y]
    if at + 1 < len(pages) and chance.random() < .7:
        by = last + chance.choice([3, 7, 12])
        pages[at + 1][2][:] = rest + [(row[0], row[1] + by, *row[2:]) for row in pages[at + 1][2]]
    else:
        pages.insert(at + 1, ("page", 0, rest))
    pages[:] = numbered(pages)


def join_pages(chance, pages):
    """Put two pages on one."""
    at = chance.randrange(len(pages))
    if at + 1 < len(pages) and pages[at][2] and pages[at + 1][2]:
        by = max(row[1] for row in pages[at][2]) + chance.choice([3, 5, 9])
        pages[at][2].extend([(row[0], row[1] + by, *row[2:]) for row in pages[at + 1][2]])
        del pages[at + 1]
        pages[:] = numbered(pages)


def add_page(chance, pages):
    pages.insert(chance.randint(0, len(pages)), ("page", 0, []))
    pages[:] = numbered(pages)


CHANGES = [move_lines, move_lines, move_row, indent_line, drop_row, drop_line, split_row, change_glyphs, swap_pages, cut_page,
           cut_page, join_pages, add_page]


def changed_style(chance, style):
    limits, gaps = dict(style[10]), dict(style[9])
    what = chance.choice(["keep", "floats", "notes", "height", "gap", "gap"])
    if what == "gap":
        name = chance.choice(sorted(gaps))
        height, stretch, shrink = gaps[name]
        gaps[name] = chance.choice([(height + 1, stretch, shrink), (height, 0, 0), (height + 3, 0, min(3, shrink)),
                                    (height, stretch, height)])
    elif what == "height":
        return (*style[:3], style[3] - chance.choice([1, 10]), *style[4:])
    else:
        limits[what] = chance.choice([1, 2, 3, 5, limits[what] + 1, max(1, limits[what] - 1), 10, 30])
    return (*style[:9], gaps, limits, style[11])


def changed_document(chance, document):
    """Ask for a new page somewhere, or do not ask."""
    document = list(document)
    at = chance.randint(0, len(document))
    if chance.random() < .5 and ("page",) in document:
        document.remove(("page",))
    else:
        document.insert(at, ("page",))
    return document


def changed(chance, document, style, table, pages):
    """A document, a style, a table and pages; something of them is changed."""
    pages, table = deepcopy(pages), list(table)
    what = chance.choice(["pages", "pages", "pages", "style", "document", "table"])
    if what == "style":
        style = changed_style(chance, style)
    elif what == "document":
        document = changed_document(chance, document)
    elif what == "table" and table:
        table[chance.randrange(len(table))] += chance.choice([-1, 1])
    elif any(page[2] for page in pages):
        chance.choice(CHANGES)(chance, pages)
    if chance.random() < .3 and any(page[2] for page in pages):
        chance.choice(CHANGES)(chance, pages)
    return document, style, table, pages

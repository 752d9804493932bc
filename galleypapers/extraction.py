"""Reading the words of pages (points 13.1 to 13.3)."""

from galleypapers.fonts import SOFT, text_of, width


def lines_of(page, uses):
    """Return the lines of a page for some uses, each a list of rows."""
    at_baseline = {}
    for row in page[2]:
        if row[2] in uses:
            at_baseline.setdefault(row[1], []).append(row)
    return [sorted(at_baseline[y], key=lambda one: one[0]) for y in sorted(at_baseline)]


def _words_of_line(line, fonts):
    found = []
    right = None
    for x, _, use, glyphs in line:
        if right is not None and x <= right:
            found[-1] += text_of(glyphs)
        else:
            found.append(text_of(glyphs))
        right = x + width(fonts[use], glyphs)
    return found


def words(pages, fonts, uses):
    """Return the words of all lines of pages for some uses."""
    found = []
    is_open = False
    for page in pages:
        for line in lines_of(page, uses):
            of_line = _words_of_line(line, fonts)
            if is_open:
                found[-1] += of_line.pop(0)
            found.extend(of_line)
            is_open = line[-1][3][-1] == SOFT
    return found


def heads(pages, fonts, uses):
    """Return the number of the page, the use of the first row, and the words of each line for some uses."""
    found = []
    for page in pages:
        for line in lines_of(page, uses):
            found.append((page[1], line[0][2], " ".join(_words_of_line(line, fonts))))
    return found

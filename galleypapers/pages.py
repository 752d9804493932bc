"""Stacks placed on pages, and the page language (points 12.1 to 12.4)."""

from galleypapers.characters import is_digit, is_name
from galleypapers.errors import TextError
from galleypapers.fonts import is_glyph
from galleypapers.setting import glue_widths

_MOST_DIGITS = 12
_ESCAPED = "[]\\"


def placed(stack, height):
    """Return the rows of a stack that is placed on a page of some height."""
    room = height - sum([part[1] + part[2] if part[0] == "row" else part[1] for part in stack])
    heights = glue_widths([part[1:] for part in stack if part[0] == "gap"], room)
    rows = []
    top = 0
    passed = 0
    for part in stack:
        if part[0] == "row":
            rows.extend([(x, top + part[1], use, glyphs) for x, use, glyphs in part[3]])
            top += part[1] + part[2]
        else:
            top += heights[passed]
            passed += 1
    return rows


def write_pages(pages):
    """Return the text of pages."""
    lines = []
    for _, number, rows in pages:
        lines.append(_written_page(number, len(rows)))
        lines.extend([_written_row(row) for row in rows])
    return "".join([line + "\n" for line in lines])


def _written_page(number, many):
    return f"page {number} {many}"


def _written_row(row):
    x, y, use, glyphs = row
    return f"{x} {y} {use} " + "".join([_written_glyph(glyph) for glyph in glyphs])


def _written_glyph(glyph):
    text = "".join([_written_sign(sign) for sign in glyph])
    return text if len(glyph) == 1 else "[" + text + "]"


def _written_sign(sign):
    if sign == "\n":
        return "\\n"
    return "\\" + sign if sign in _ESCAPED else sign


def read_pages(text):
    """Return the pages whose text this is, or raise TextError."""
    lines = text.split("\n")
    # Behind the last newline there is no line, but what is left over if one is missing.
    left_over = lines.pop()
    pages = []
    missing = 0
    for at, line in enumerate(lines):
        if missing == 0:
            number, missing = _read_page(line, at + 1)
            pages.append(("page", number, []))
        else:
            pages[-1][2].append(_read_row(line, at + 1))
            missing -= 1
    if missing > 0 or left_over != "":
        raise TextError(len(lines) + 1)
    return pages


def _is_number(word):
    """Tell whether a word is a number as it is written; a zero too many is not seen here."""
    digits = word.removeprefix("-")
    return 1 <= len(digits) <= _MOST_DIGITS and all([is_digit(sign) for sign in digits])


def _read_page(line, at):
    """Return the number of a page and that of its rows."""
    words = line.split(" ")
    if len(words) == 3 and _is_number(words[1]) and _is_number(words[2]):
        number, many = int(words[1]), int(words[2])
        if number >= 0 and many >= 0 and _written_page(number, many) == line:
            return number, many
    raise TextError(at)


def _read_row(line, at):
    words = line.split(" ")
    if len(words) == 4 and _is_number(words[0]) and _is_number(words[1]) and is_name(words[2]):
        row = (int(words[0]), int(words[1]), words[2], _read_glyphs(words[3]))
        # What is written in another way does not come back when it is written again.
        if row[3] and all([is_glyph(glyph) for glyph in row[3]]) and _written_row(row) == line:
            return row
    raise TextError(at)


def _read_glyphs(word):
    """Return the glyphs of a word, which need not be as they are written."""
    glyphs = []
    glyph = ""
    longer = False
    escaped = False
    for sign in word:
        if sign == "\\" and not escaped:
            escaped = True
            continue
        if sign == "[" and not escaped:
            longer = True
        elif sign == "]" and not escaped:
            longer = False
        else:
            glyph += "\n" if escaped and sign == "n" else sign
        if not longer:
            glyphs.append(glyph)
            glyph = ""
        escaped = False
    return glyphs

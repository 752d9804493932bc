"""Fonts: their faults, and how texts stand in their glyphs (points 2.1 to 2.5)."""

from galleypapers.characters import is_name, is_visible
from galleypapers.errors import FontError, GlyphError

SOFT = "-\n"

_GREATEST = 100000
_LONGEST_GLYPH = 4


def check_font(font):
    """Raise FontError for the first fault of a font, if it has one."""
    name, glyphs, kerns = font[1], font[2], font[3]
    if not is_name(name):
        raise FontError(name)
    for glyph in sorted(glyphs):
        if not _can_be_set(glyphs, glyph) or not _sizes_fit(glyphs[glyph]):
            raise FontError(glyph)
    if SOFT not in glyphs:
        raise FontError(SOFT)
    for pair in sorted(kerns):
        if not _kern_fits(glyphs, pair, kerns[pair]):
            raise FontError(pair)


def is_glyph(text):
    """Tell whether a text is a glyph: a character, a ligature or SOFT."""
    if text == SOFT:
        return True
    return 1 <= len(text) <= _LONGEST_GLYPH and all([is_visible(sign) for sign in text])


def _can_be_set(glyphs, glyph):
    """Tell whether a key is a glyph, and a ligature has all its beginnings."""
    if glyph == SOFT:
        return True
    return is_glyph(glyph) and all([glyph[:size] in glyphs for size in range(1, len(glyph))])


def _sizes_fit(sizes):
    wide, height, depth = sizes
    return 1 <= wide <= _GREATEST and 0 <= height <= _GREATEST and 0 <= depth <= _GREATEST


def _kern_fits(glyphs, pair, amount):
    left, right = pair
    if left not in glyphs or right not in glyphs:
        return False
    return -_GREATEST <= amount <= 0 and glyphs[left][0] + amount >= 1


def shape(font, text):
    """Return the glyphs of a text, or raise GlyphError for a character that is none."""
    glyphs = font[2]
    # All characters are looked at first: a ligature must not hide one that is
    # no glyph by itself, and SOFT, which has a newline, is never found in a text.
    for at, sign in enumerate(text):
        if sign not in glyphs:
            raise GlyphError(at)
    row = []
    start = 0
    while start < len(text):
        glyph = _longest(glyphs, text, start)
        row.append(glyph)
        start += len(glyph)
    return row


def _longest(glyphs, text, start):
    """Return the longest glyph with which the rest of a text begins."""
    for size in range(_LONGEST_GLYPH, 1, -1):
        piece = text[start:start + size]
        if piece in glyphs:
            return piece
    return text[start]


def text_of(glyphs):
    """Return the joined texts of glyphs; SOFT has none."""
    return "".join([glyph for glyph in glyphs if glyph != SOFT])


def positions(font, glyphs):
    """Return the left edges of all glyphs of a row, and then its width."""
    sizes, kerns = font[2], font[3]
    edges = []
    edge = 0
    for at, glyph in enumerate(glyphs):
        if at > 0:
            edge += kerns.get((glyphs[at - 1], glyph), 0)
        edges.append(edge)
        edge += sizes[glyph][0]
    edges.append(edge)
    return edges


def width(font, glyphs):
    """Return the width of a row of glyphs."""
    return positions(font, glyphs)[-1]


def extents(font, glyphs):
    """Return the greatest height and the greatest depth of a row of glyphs, or 0."""
    sizes = font[2]
    height = max([sizes[glyph][1] for glyph in glyphs], default=0)
    depth = max([sizes[glyph][2] for glyph in glyphs], default=0)
    return height, depth

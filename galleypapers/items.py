"""The items of paragraphs (points 6.1 to 6.5)."""

from galleypapers.fonts import SOFT, extents, positions, shape
from galleypapers.hyphens import Divider

_NEVER = 10000
_ALWAYS = -10000
SPACE = " "
TIE = "~"
_FILL = 10000000


def items_of(style, runs, use, indent, first_note):
    """Return the items of runs, and the pairs of the numbers and runs of their notes."""
    divider = Divider(style[11])
    tokens, notes = tokens_of(runs, use, first_note)
    items = [("box", indent, 0, 0, [], ())]
    begun = False
    between = ""
    for token in tokens:
        if token in (SPACE, TIE):
            # Only the first one between two words counts, be there a space or a tie.
            between = between or token
        else:
            if begun:
                items.extend(_between(style, between))
            items.extend(_piece_items(style, divider, token))
            begun = True
            between = ""
    items.extend([_penalty(_NEVER), ("glue", 0, _FILL, 0), _penalty(_ALWAYS)])
    return items, notes


def _penalty(cost):
    return ("penalty", 0, cost, False, [])


def _between(style, token):
    """Return the items that stand between two pieces, by the first space or tie there."""
    if token == "":
        return []
    wide, stretch, shrink = style[6]
    glue = ("glue", wide, stretch, shrink)
    return [glue] if token == SPACE else [_penalty(_NEVER), glue]


def tokens_of(runs, use, first_note):
    """Return the pieces of runs, with the spaces and ties around them, and their notes.

    A piece is (use, text, notes). Only pieces of texts have no notes.
    """
    tokens = []
    notes = []
    marks = 0
    for run in runs:
        if run[0] == "text":
            tokens.extend(_text_tokens(use or run[1], run[2]))
        elif run[0] == "note":
            number = first_note + len(notes)
            notes.append((number, run[1]))
            tokens.append(("note", str(number), (number,)))
        elif run[0] == "mark":
            marks += 1
            tokens.append(("", "", (-marks,)))
        else:
            tokens.append(TIE)
    return tokens, notes


def _text_tokens(use, text):
    tokens = []
    for at, part in enumerate(text.split(" ")):
        if at > 0:
            tokens.append(SPACE)
        if part != "":
            tokens.append((use, part, ()))
    return tokens


def _piece_items(style, divider, piece):
    """Return the boxes of the parts of a piece, and the penalties between them."""
    use, text, notes = piece
    if text == "":
        return [("box", 0, 0, 0, [], notes)]
    font = style[1][use]
    glyphs = shape(font, text)
    if notes:
        return [_box(font, piece, glyphs, 0, len(glyphs))]
    items = []
    start = 0
    for cut, soft in _cuts(glyphs, text, divider):
        items.append(_box(font, piece, glyphs, start, cut))
        items.append(_hyphen(style, use, glyphs, cut, soft))
        start = cut
    items.append(_box(font, piece, glyphs, start, len(glyphs)))
    return items


def _cuts(glyphs, text, divider):
    """Return the indexes of the glyphs ahead of which a text can be parted, and if by a soft hyphen."""
    places = set(divider.points(text))
    cuts = []
    place = 0
    for at, glyph in enumerate(glyphs):
        if at > 0 and text[place - 1] == "-":
            cuts.append((at, False))
        elif place in places:
            cuts.append((at, True))
        place += len(glyph)
    return cuts


def _box(font, piece, glyphs, start, end):
    """Return the box of the glyphs of a piece from a start to an end."""
    use, _, notes = piece
    part = glyphs[start:end]
    # The next glyph belongs to the positions: a kern ahead of it makes the box narrower.
    edges = positions(font, glyphs[start:end + 1])
    height, depth = extents(font, part)
    return ("box", edges[end - start], height, depth, [(0, use, part)], notes)


def _hyphen(style, use, glyphs, cut, soft):
    """Return the penalty between two parts of a piece; the kern comes back if a line ends there."""
    font = style[1][use]
    kern = -font[3].get((glyphs[cut - 1], glyphs[cut]), 0)
    cost = style[8]["hyphen"]
    if not soft:
        return ("penalty", kern, cost, True, [])
    return ("penalty", kern + font[2][SOFT][0], cost, True, [(kern, use, [SOFT])])

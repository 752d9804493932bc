"""Styles: their faults, and the default style (points 5.1 to 5.3)."""

from galleypapers.errors import FontError, HyphenError, StyleError
from galleypapers.fonts import SOFT, check_font
from galleypapers.hyphens import check_hyphens

_GREATEST = 10000000
_MOST_COST = 10000
_USES = ("text", "strong", "note", "head1", "head2")
_PENALTIES = ("line", "hyphen", "double", "fitness", "widow", "orphan", "broken", "head", "late")
_GAPS = ("above", "below", "paragraph", "item", "note", "float")
_LIMITS = ("notes", "floats", "keep", "least")

# All lengths of the default style are tenths of a point. The sizes of its
# characters are thousandths of the size of a font; the widths are these.
_WIDTHS = (
    (280, "!',.:;`ijl|"),
    (340, "\"()*-/I[\\]^frt{}"),
    (440, "?Jcesvxyz"),
    (500, "$+0123456789<=>_abdghknopqu~"),
    (640, "#BCEFLPSTZ"),
    (720, "&ADGHKNOQRUVXY"),
    (820, "@Mmw"),
    (940, "W"),
)
_LIGATURES = (("ff", 620), ("fi", 580), ("fl", 580), ("ffi", 880), ("ffl", 880))
# Two characters of a pair stand nearer to each other by so much.
_KERNS = (
    ("A", "V", 90), ("A", "W", 80), ("A", "Y", 80), ("T", "a", 70), ("T", "e", 70), ("T", "o", 70),
    ("V", "A", 90), ("W", "A", 80), ("Y", "A", 80), ("Y", "o", 90), ("o", "v", 20), ("v", "o", 20),
)
_SMALL = "*+,-.:;<=>_acegmnopqrsuvwxyz~"
_DEEP = "$()/,;@Q[\\]_gjpqy{|}"
_SMALL_HEIGHT = 460
_TALL_HEIGHT = 680
_DEPTH = 220
_SOFT_WIDTH = 340

# Breaks in front of endings, and behind beginnings, that nearly all words with them have.
_PATTERNS = (
    "1hood", "1less.", "1ment", "1ness", "1ship", "1sion", "1tion", "1tive", "1ture",
    ".in1ter1", ".over1", ".trans1", ".un1der1",
)
_EXCEPTIONS = ("gal-ley", "gal-leys", "hy-phen", "hy-phens", "pa-per", "pa-pers", "ta-ble", "ta-bles")


def check_style(style):
    """Raise StyleError for the first part of a style that breaks a rule, if there is one."""
    fonts, measure, height, leading, indent, space, tolerance, penalties, gaps, limits, hyphens = style[1:]
    parts = [
        ("fonts", _fonts_fit(fonts)),
        ("measure", 1 <= measure <= _GREATEST),
        ("height", 1 <= height <= _GREATEST),
        ("leading", 1 <= leading <= _GREATEST),
        ("indent", 0 <= indent < measure),
        ("space", _space_fits(space)),
        ("tolerance", 0 <= tolerance <= _MOST_COST),
        ("penalties", _numbers_fit(penalties, _PENALTIES, _MOST_COST)),
        ("gaps", _gaps_fit(gaps)),
        ("limits", _numbers_fit(limits, _LIMITS, _GREATEST) and limits["keep"] >= 1),
        ("hyphens", _hyphens_fit(hyphens)),
    ]
    for part, fits in parts:
        if not fits:
            raise StyleError(part)


def _has_just(table, names):
    """Tell whether the keys of a dict are just some names."""
    return len(table) == len(names) and all([name in table for name in names])


def _fonts_fit(fonts):
    return _has_just(fonts, _USES) and all([_font_fits(fonts[use]) for use in _USES])


def _font_fits(font):
    try:
        check_font(font)
    except FontError:
        return False
    return True


def _space_fits(space):
    wide, stretch, shrink = space
    return 1 <= wide <= _GREATEST and 0 <= stretch <= _GREATEST and 0 <= shrink < wide


def _numbers_fit(table, names, most):
    """Tell whether a dict has just some names, with numbers from 0 to a greatest one."""
    return _has_just(table, names) and all([0 <= table[name] <= most for name in names])


def _gaps_fit(gaps):
    return _has_just(gaps, _GAPS) and all([_gap_fits(gaps[name]) for name in _GAPS])


def _gap_fits(gap):
    height, stretch, shrink = gap
    return 0 <= height <= _GREATEST and 0 <= stretch <= _GREATEST and 0 <= shrink <= height


def _hyphens_fit(hyphens):
    try:
        check_hyphens(hyphens)
    except HyphenError:
        return False
    return True


def line_costs(style):
    """Return the costs of a style for breaking lines: for each line, for two flagged breaks, and for a clash."""
    penalties = style[8]
    return penalties["line"], penalties["double"], penalties["fitness"]


def default_style():
    """Return a style without a fault, for pages of 360 by 600 points."""
    fonts = {
        "text": _default_font("roman", 100, 100),
        "strong": _default_font("bold", 100, 108),
        "note": _default_font("small", 80, 100),
        "head1": _default_font("large", 140, 108),
        "head2": _default_font("middle", 120, 108),
    }
    penalties = {"line": 10, "hyphen": 50, "double": 3000, "fitness": 3000, "widow": 150, "orphan": 150,
                 "broken": 100, "head": 0, "late": 50}
    gaps = {"above": (240, 120, 40), "below": (120, 40, 20), "paragraph": (40, 60, 10), "item": (20, 30, 5),
            "note": (120, 60, 20), "float": (120, 80, 40)}
    limits = {"notes": 2000, "floats": 3, "keep": 2, "least": 20}
    hyphens = ("hyphens", list(_PATTERNS), list(_EXCEPTIONS), 2, 3)
    return ("style", fonts, 3600, 6000, 120, 150, (33, 16, 11), 10000, penalties, gaps, limits, hyphens)


def _default_font(name, size, breadth):
    """Return a font of a size whose characters have a breadth in hundredths of the usual one."""
    glyphs = {}
    for wide, signs in _WIDTHS:
        for sign in signs:
            height = _SMALL_HEIGHT if sign in _SMALL else _TALL_HEIGHT
            depth = _DEPTH if sign in _DEEP else 0
            glyphs[sign] = (_broad(wide, size, breadth), _sized(height, size), _sized(depth, size))
    for ligature, wide in _LIGATURES:
        glyphs[ligature] = (_broad(wide, size, breadth), _sized(_TALL_HEIGHT, size), 0)
    glyphs[SOFT] = (_broad(_SOFT_WIDTH, size, breadth), _sized(_SMALL_HEIGHT, size), 0)
    kerns = {(left, right): -_sized(amount, size) for left, right, amount in _KERNS}
    return ("font", name, glyphs, kerns)


def _sized(amount, size):
    """Return so many thousandths of the size of a font, rounded down."""
    return amount * size // 1000


def _broad(wide, size, breadth):
    return _sized(wide, size) * breadth // 100

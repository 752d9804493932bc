"""A plain style, and random documents, for the tests of whole documents."""

import random

from galleypapers.fonts import SOFT
from galleypapers.styles import check_style
from tests.test_styles import style

SIGNS = [chr(code) for code in range(ord("!"), ord("~") + 1) if code != 37]
NAMES = ["line", "hyphen", "double", "fitness", "widow", "orphan", "broken", "head", "late"]
GAPS = {"above": (9, 6, 3), "below": (5, 3, 2), "paragraph": (4, 5, 1), "item": (2, 2, 0), "note": (6, 4, 2),
        "float": (7, 5, 3)}
PATTERNS = ("hyphens", ["a1b", "b1c", "c1d", "d1a", "e1e"], ["ba-d"], 2, 2)


def font(name, wide=10, height=7, depth=2, **sizes):
    """A font in which all characters have one width, but for some."""
    glyphs = {sign: (sizes.get(sign, wide), height, depth) for sign in SIGNS}
    return ("font", name, {**glyphs, SOFT: (wide // 2, height // 2, 0)}, {})


def plain_style(**parts):
    """A style with lines of 20 letters and pages of about 10 lines, with some parts that are others."""
    fonts = {"text": font("text"), "strong": font("bold", 12), "note": font("tiny", 6, 5, 1),
             "head1": font("large", 14, 11, 3), "head2": font("middle", 12, 9, 3)}
    whole = {"fonts": fonts, "measure": 200, "height": 130, "leading": 12, "indent": 20, "space": (10, 8, 3),
             "tolerance": 10000, "penalties": {name: 10 * at for at, name in enumerate(NAMES)}, "gaps": GAPS,
             "limits": {"notes": 60, "floats": 2, "keep": 2, "least": 1}, "hyphens": PATTERNS}
    whole.update(parts)
    made = style(**whole)
    check_style(made)
    return made


def text(signs, use="text"):
    return ("text", use, signs)


def para(*runs):
    return ("para", [text(run) if isinstance(run, str) else run for run in runs])


def item(depth, *runs):
    return ("item", depth, para(*runs)[1])


def head(level, signs="head", label=""):
    return ("head", level, [text(signs)], label)


def floating(height, signs="", label=""):
    return ("float", height, [text(signs)] if signs else [], label)


def note(*runs):
    return ("note", para(*runs)[1])


def words(chance, most=8, longest=9):
    """Some words, with single spaces between them."""
    return " ".join(["".join(chance.choice("abcde") for _ in range(chance.randint(1, longest)))
                     for _ in range(chance.randint(1, most))])


def some_runs(chance, labels, rich=True, most=8):
    """Runs that begin with a word, with notes and marks if they are rich."""
    longest = 9 if most > 2 else 4
    runs = [text(words(chance, most, longest))]
    for _ in range(chance.choice([0, 1, 2, 3])):
        kind = chance.choice(["strong", "ref", "page", "tie", "note", "mark"])
        if kind == "strong":
            runs += [text(" "), text(words(chance, 3, longest), "strong"), text(" " + words(chance, 2, longest))]
        elif kind in ("ref", "page") and labels:
            runs += [text(" see "), (kind, chance.choice(labels)), text(". " + words(chance, 2, longest))]
        elif kind == "tie":
            runs += [("tie",), text(words(chance, 3, longest))]
        elif kind == "note" and rich:
            runs += [note(*some_runs(chance, labels, False, 4)), text(" " + words(chance, 3, longest))]
        elif kind == "mark" and rich:
            runs += [("mark", chance.choice(["one", "two", "three"])), text(" " + words(chance, 2, longest))]
    return runs


def some_block(chance, labels):
    kind = chance.choice(["para"] * 6 + ["item"] * 3 + ["head"] * 2 + ["float", "table", "page", "contents", "index"])
    if kind == "para":
        return ("para", some_runs(chance, labels))
    if kind == "item":
        return ("item", chance.choice([1, 2]), some_runs(chance, labels))
    if kind == "head":
        return head(chance.choice([1, 2]), words(chance, 2))
    if kind == "float":
        return ("float", chance.randint(0, 40), some_runs(chance, labels, False, 4), "")
    if kind == "table":
        columns = chance.choice([1, 2, 3])
        return ("table", [[some_runs(chance, labels, True, 2) for _ in range(columns)]
                          for _ in range(chance.choice([1, 2]))])
    return (kind,)


def some_document(seed, many=8):
    """A document with blocks of all kinds, some of them with labels."""
    chance = random.Random(seed)
    size = chance.randint(0, many)
    labels = [f"l{at}" for at in range(chance.randint(0, 3))]
    blocks = [some_block(chance, labels) for _ in range(size)]
    for label in labels:
        blocks.insert(chance.randint(0, len(blocks)),
                      head(1, "named", label) if chance.random() < .5 else floating(15, "named", label))
    return blocks

"""The errors of the program, all under GalleyError."""


class GalleyError(ValueError):
    """The base class of all errors of the program."""


class FontError(GalleyError):
    """A font has a fault: its name, one of its keys, or SOFT."""

    def __init__(self, at):
        super().__init__(f"fault of a font: {at!r}")
        self.at = at


class GlyphError(GalleyError):
    """A font lacks the character of a text at an index."""

    def __init__(self, at):
        super().__init__(f"no glyph for the character at {at!r}")
        self.at = at


class BreakError(GalleyError):
    """A paragraph has no feasible breaks; lines lead up to an item."""

    def __init__(self, at):
        super().__init__(f"no feasible lines behind the item {at!r}")
        self.at = at


class PageError(GalleyError):
    """There are no right pages; allowed ones lead up to a position."""

    def __init__(self, at):
        super().__init__(f"no allowed pages behind the position {at!r}")
        self.at = at


class TableError(GalleyError):
    """A table has no widths at which all of its cells can be broken."""

    def __init__(self, at):
        super().__init__(f"no widths for a table: {at!r}")
        self.at = at


class MarkError(GalleyError):
    """A marked text breaks a rule at a line and a column, both from 1 on."""

    def __init__(self, line, column):
        super().__init__(f"wrong mark in line {line!r}, column {column!r}")
        self.line = line
        self.column = column


class HyphenError(GalleyError):
    """The hyphens of a language, or the words to learn from, have a fault."""

    def __init__(self, kind, at):
        super().__init__(f"fault of hyphens: {kind!r} {at!r}")
        self.kind = kind
        self.at = at


class StyleError(GalleyError):
    """A part of a style breaks a rule."""

    def __init__(self, part):
        super().__init__(f"fault of a style: {part!r}")
        self.part = part


class LabelError(GalleyError):
    """A label is there twice, or is referred to and not there."""

    def __init__(self, label):
        super().__init__(f"wrong label: {label!r}")
        self.label = label


class CircleError(GalleyError):
    """Rounds of layouts do not settle; the tables of all rounds tell how."""

    def __init__(self, rounds):
        super().__init__("the layouts do not settle")
        self.rounds = rounds


class TextError(GalleyError):
    """A text is not one of pages; the number of a line tells where."""

    def __init__(self, line):
        super().__init__(f"wrong line of pages: {line!r}")
        self.line = line


class EditError(GalleyError):
    """An edit does not fit its document."""

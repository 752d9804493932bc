"""Edits of documents, and sessions that lay out edited documents (points 14.1 to 14.4)."""

from galleypapers.errors import EditError
from galleypapers.galley import Known, build_from


def _removed_blocks(document, edit):
    """Return the blocks that an edit removes, or raise EditError if it does not fit."""
    _, at, removed, _ = edit
    if at < 0 or removed < 0 or at + removed > len(document):
        raise EditError(f"{removed} blocks from {at} on are not in a document of {len(document)} blocks")
    return document[at:at + removed]


def applied(document, edit):
    """Return the document after an edit, or raise EditError."""
    removed = _removed_blocks(document, edit)
    _, at, _, blocks = edit
    return document[:at] + blocks + document[at + len(removed):]


def inverse(document, edit):
    """Return the edit that leads back to a document, or raise EditError."""
    removed = _removed_blocks(document, edit)
    _, at, _, blocks = edit
    return ("edit", at, len(blocks), removed)


def difference(old, new):
    """Return the edit that leads from a document to another one and leaves equal blocks at both ends."""
    most = min(len(old), len(new))
    ahead = _equal_ahead(old, new, most)
    behind = _equal_ahead(old[::-1], new[::-1], most - ahead)
    return ("edit", ahead, len(old) - ahead - behind, new[ahead:len(new) - behind])


def _equal_ahead(first, second, most):
    """Return how many things, but at most so many, two lists have in common at their beginnings."""
    many = 0
    while many < most and first[many] == second[many]:
        many += 1
    return many


class Session:
    """A document with the layout that settles, after any edits; what was made is kept."""

    def __init__(self, document, style):
        self.style = style
        self.known = Known()
        self.document = document
        self.layout, self.tables = build_from(document, style, self.known)
        self.made = self.known.count
        self.same = 0

    def edit(self, edit):
        """Edit the document and lay it out again; if this raises an error, all stays as it was."""
        document = applied(self.document, edit)
        count = self.known.count
        layout, tables = build_from(document, self.style, self.known)
        most = min(len(layout.placed), len(self.layout.placed))
        self.same = _equal_ahead(self.layout.placed, layout.placed, most)
        self.made = self.known.count - count
        self.document = document
        self.layout = layout
        self.tables = tables

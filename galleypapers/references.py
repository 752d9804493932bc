"""The numbers of a document, its references, and its sources (points 11.1 to 11.4)."""

from galleypapers.errors import LabelError
from galleypapers.tables import table_widths


class Numbers:
    """The heads, marks and labels of a document with their numbers.

    `order` has the heads, floats and marks as they come, each with its index
    among those of its kind.
    """

    def __init__(self):
        self.heads = []
        self.marks = []
        self.labels = {}
        self.order = []
        self.floats = 0
        self.chapters = 0
        self.sections = 0

    def add_head(self, block):
        _, level, _, label = block
        if level == 1:
            self.chapters += 1
            self.sections = 0
            number = str(self.chapters)
        else:
            self.sections += 1
            number = f"{self.chapters}.{self.sections}"
        self.add_entry(("head", len(self.heads)), number, label)
        self.heads.append((number, block))

    def add_float(self, label):
        self.floats += 1
        self.add_entry(("float", self.floats - 1), str(self.floats), label)

    def add_entry(self, entry, number, label):
        if label in self.labels:
            raise LabelError(label)
        if label != "":
            self.labels[label] = (number, entry)
        self.order.append(entry)

    def add_marks(self, runs):
        for run in runs:
            if run[0] == "mark":
                self.order.append(("mark", len(self.marks)))
                self.marks.append(run[1])


def numbers_of(document):
    """Return the numbers of a document, or raise LabelError for a label that is there twice."""
    numbers = Numbers()
    for block in document:
        if block[0] == "head":
            numbers.add_head(block)
        elif block[0] == "float":
            numbers.add_float(block[3])
        else:
            for runs in _runs_with_notes(block):
                numbers.add_marks(runs)
    return numbers


def _runs_with_notes(block):
    """Return the lists of runs of a block that may have notes and marks."""
    if block[0] == "para":
        return [block[1]]
    if block[0] == "item":
        return [block[2]]
    if block[0] == "table":
        return [runs for cells in block[1] for runs in cells]
    return []


def sources(document, style, table):
    """Return the sources of a document for a style and a table, and its numbers."""
    numbers = numbers_of(document)
    maker = SourceMaker(numbers, style, table)
    found = []
    for block in document:
        found.extend(maker.sources_of(block))
    return found, numbers


def _plain(text):
    return ("text", "text", text)


class SourceMaker:
    """Makes the sources of the blocks of a document, one block after the other."""

    def __init__(self, numbers, style, table):
        self.numbers = numbers
        self.style = style
        self.on_page = {entry: page for entry, page in zip(numbers.order, table)}
        self.heads = 0
        self.notes = 0

    def sources_of(self, block):
        """Return the sources of a block."""
        kind = block[0]
        if kind == "head":
            return [self.head_source(block)]
        if kind == "para":
            return [self.lines_source("para", block[1], self.style[5])]
        if kind == "item":
            room = min(block[1] * self.style[5], self.style[2] // 2)
            return [self.lines_source("item", block[2], room)]
        if kind == "float":
            return [("float", self.resolved(block[2]), "note", 0, 0, block[1])]
        if kind == "table":
            return self.row_sources(block[1])
        if kind == "contents":
            return self.contents_sources()
        if kind == "index":
            return self.index_sources()
        return [("page",)]

    def head_source(self, block):
        number, _ = self.numbers.heads[self.heads]
        self.heads += 1
        return ("head", [_plain(number + " "), *block[2]], f"head{block[1]}", 0, 0)

    def lines_source(self, kind, runs, indent):
        first_note = self.first_note([runs])
        return (kind, self.resolved(runs), "", indent, first_note)

    def row_sources(self, rows):
        resolved = [[self.resolved(runs) for runs in cells] for cells in rows]
        widths = table_widths(self.style, resolved)
        return [("row", cells, "", widths, self.first_note(cells)) for cells in resolved]

    def contents_sources(self):
        found = []
        for at, (number, block) in enumerate(self.numbers.heads):
            page = self.on_page[("head", at)]
            found.append(_added([_plain(number + " "), *block[2], _plain(f" {page}")]))
        return found

    def index_sources(self):
        pages = {}
        for at, text in enumerate(self.numbers.marks):
            pages.setdefault(text, []).append(self.on_page[("mark", at)])
        found = []
        for text in sorted(pages):
            numbers = ", ".join([str(page) for page in sorted(set(pages[text]))])
            found.append(_added([_plain(text + " " + numbers)]))
        return found

    def first_note(self, lists):
        """Return the number of the first note of some lists of runs, or 0; the notes count as used."""
        many = len([run for runs in lists for run in runs if run[0] == "note"])
        first = self.notes + 1 if many > 0 else 0
        self.notes += many
        return first

    def resolved(self, runs):
        """Return runs with texts in place of references, also in notes."""
        found = []
        for run in runs:
            if run[0] in ("ref", "page"):
                found.append(_plain(self.text_of_reference(run)))
            elif run[0] == "note":
                found.append(("note", self.resolved(run[1])))
            else:
                found.append(run)
        return found

    def text_of_reference(self, run):
        kind, label = run
        if label not in self.numbers.labels:
            raise LabelError(label)
        number, entry = self.numbers.labels[label]
        return number if kind == "ref" else str(self.on_page[entry])


def _added(runs):
    """Return the source of a line of the contents or of the index."""
    return ("item", runs, "", 0, 0)

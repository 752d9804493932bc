"""Marked texts: how they are read as documents, and written (points 4.1 to 4.6)."""

from galleypapers.characters import is_digit, is_name, is_small, is_visible
from galleypapers.errors import MarkError

_MARKS = "\\*{}^@#~|"
_BARE_LINES = {"#page": ("page",), "#contents": ("contents",), "#index": ("index",)}
_FLOAT = "#float "
_MOST_DIGITS = 6
_MOST_CELLS = 4


def read(text):
    """Return the document of a marked text, or raise MarkError."""
    document = []
    rows = []
    for at, line in enumerate(text.split("\n")):
        scanner = Scanner(line, at + 1)
        if line.startswith("|"):
            cells = _cells(scanner, rows)
            if not rows:
                document.append(("table", rows))
            rows.append(cells)
        else:
            # A table ends here, also at an empty line; the next row begins another list.
            rows = []
            if line != "":
                document.append(_block(scanner))
    return document


def _block(scanner):
    """Return the block of a line that is not empty and no row of a table."""
    line = scanner.text
    if line in _BARE_LINES:
        return _BARE_LINES[line]
    for level in (1, 2):
        if line.startswith("#" * level + " "):
            return _head(scanner, level)
        if line.startswith("-" * level + " "):
            return _item(scanner, level)
    if line.startswith(_FLOAT):
        return _float(scanner)
    return ("para", scanner.read_runs("", True))


def _head(scanner, level):
    scanner.place = level + 1
    text = scanner.read_some_text()
    return ("head", level, [("text", "text", text)], scanner.read_last_label())


def _item(scanner, depth):
    scanner.place = depth + 1
    runs = scanner.read_runs("", True)
    if not runs:
        scanner.stop(scanner.place)
    return ("item", depth, runs)


def _float(scanner):
    scanner.place = len(_FLOAT)
    height = scanner.read_number()
    scanner.skip(" ")
    scanner.skip("{")
    runs = scanner.read_runs("}", False)
    scanner.skip("}")
    return ("float", height, runs, scanner.read_last_label())


def _cells(scanner, rows):
    """Return the cells of a row of a table, as many as each of the rows above it has."""
    scanner.place = 1
    cells = []
    while scanner.sign() != "":
        cells.append(scanner.read_runs("|", True))
        scanner.skip("|")
    if not 1 <= len(cells) <= _MOST_CELLS or rows and len(cells) != len(rows[0]):
        scanner.stop(scanner.place)
    return cells


class Scanner:
    """A line of a marked text that is read from the left."""

    def __init__(self, text, number):
        self.text = text
        self.number = number
        self.place = 0

    def stop(self, place):
        """Raise MarkError for a place of the line, counted from 0 on."""
        raise MarkError(self.number, place + 1)

    def sign(self):
        """Return the next character; it is an empty string at the end of the line."""
        return self.text[self.place:self.place + 1]

    def skip(self, sign):
        """Go past a character that must come next."""
        if self.sign() != sign:
            self.stop(self.place)
        self.place += 1

    def read_number(self):
        """Return a number that must come next."""
        first = self.place
        while is_digit(self.sign()):
            self.place += 1
        if not 1 <= self.place - first <= _MOST_DIGITS:
            self.stop(first)
        return int(self.text[first:self.place])

    def read_label(self):
        """Return a label that must come next."""
        first = self.place
        while is_small(self.sign()) or is_digit(self.sign()):
            self.place += 1
        label = self.text[first:self.place]
        if not is_name(label):
            self.stop(first)
        return label

    def read_last_label(self):
        """Return the label of a block, if there is one; then the line must end."""
        label = ""
        if self.sign() == "#":
            self.place += 1
            label = self.read_label()
        if self.sign() != "":
            self.stop(self.place)
        return label

    def read_text(self):
        """Return all up to the next mark that is not plain; it may be empty."""
        signs = []
        sign = self.sign()
        while sign == "\\" or sign != "" and sign not in _MARKS:
            if sign == "\\":
                sign = self.text[self.place + 1:self.place + 2]
                if sign == "" or sign not in _MARKS:
                    self.stop(self.place)
                self.place += 1
            elif sign != " " and not is_visible(sign):
                self.stop(self.place)
            signs.append(sign)
            self.place += 1
            sign = self.sign()
        return "".join(signs)

    def read_some_text(self):
        """Return a text that must come next and is not empty."""
        text = self.read_text()
        if text == "":
            self.stop(self.place)
        return text

    def read_runs(self, end, notes):
        """Return the runs up to a mark, or to the end of the line; `notes` tells if there may be some."""
        runs = []
        while self.sign() != end:
            if self.sign() == "*":
                runs.extend(self.read_strong(notes))
            else:
                runs.append(self.read_run("text", notes))
        return runs

    def read_strong(self, notes):
        """Return the runs of a strong part, at least one."""
        self.skip("*")
        runs = [self.read_run("strong", notes)]
        while self.sign() != "*":
            runs.append(self.read_run("strong", notes))
        self.skip("*")
        return runs

    def read_run(self, use, notes):
        """Return one run; a mark that cannot begin one is told as a missing text."""
        sign = self.sign()
        if sign == "@":
            return self.read_reference()
        if sign == "~":
            self.skip("~")
            return ("tie",)
        if sign == "^" and notes:
            return self.read_note()
        return ("text", use, self.read_some_text())

    def read_reference(self):
        """Return a reference to a number or to a page."""
        self.skip("@")
        if self.sign() != "@":
            return ("ref", self.read_label())
        self.skip("@")
        return ("page", self.read_label())

    def read_note(self):
        """Return a note or a mark of the index."""
        if self.text.startswith("^{", self.place):
            self.place += len("^{")
            runs = self.read_runs("}", False)
            self.skip("}")
            return ("note", runs)
        if not self.text.startswith("^!{", self.place):
            self.stop(self.place)
        self.place += len("^!{")
        text = self.read_some_text()
        self.skip("}")
        return ("mark", text)


def write(document):
    """Return a document as a marked text."""
    return "".join([_written_block(block) + "\n\n" for block in document])


def _written_block(block):
    kind = block[0]
    if kind == "head":
        return "#" * block[1] + " " + _written_runs(block[2]) + _written_label(block[3])
    if kind == "para":
        return _written_runs(block[1])
    if kind == "item":
        return "-" * block[1] + " " + _written_runs(block[2])
    if kind == "float":
        text = "{" + _written_runs(block[2]) + "}"
        return _FLOAT + str(block[1]) + " " + text + _written_label(block[3])
    if kind == "table":
        return "\n".join([_written_row(cells) for cells in block[1]])
    return "#" + kind


def _written_label(label):
    return "#" + label if label else ""


def _written_row(cells):
    return "|" + "".join([_written_runs(cell) + "|" for cell in cells])


def _written_runs(runs):
    return "".join([_written_run(run) for run in runs])


def _written_run(run):
    kind = run[0]
    if kind == "text":
        text = _escaped(run[2])
        return "*" + text + "*" if run[1] == "strong" else text
    if kind == "note":
        return "^{" + _written_runs(run[1]) + "}"
    if kind == "mark":
        return "^!{" + _escaped(run[1]) + "}"
    if kind == "ref":
        return "@" + run[1]
    if kind == "page":
        return "@@" + run[1]
    return "~"


def _escaped(text):
    """Return a text with a sign in front of each mark that makes it plain."""
    return "".join(["\\" + sign if sign in _MARKS else sign for sign in text])

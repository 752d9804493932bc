"""The desk: lines of a marked text, and commands that change and ask (points 16.1 to 16.4)."""

from galleypapers.breaking import cost_of, judge
from galleypapers.characters import is_digit
from galleypapers.edits import Session, difference
from galleypapers.errors import BreakError, CircleError, GlyphError, LabelError, MarkError, PageError, TableError
from galleypapers.markup import read
from galleypapers.pages import write_pages
from galleypapers.paging import accepted, paper, total_cost
from galleypapers.references import numbers_of
from galleypapers.styles import line_costs

_MOST_DIGITS = 9
_NO_COMMAND = "error line"
_NO_PLACE = "error place"


class Desk:
    """A style, the lines of a marked text, and the session in which it is laid out.

    `undos` has for each change that can be taken back the lines that there were
    before it. `changed` tells that the text has to be laid out.
    """

    def __init__(self, style):
        self.style = style
        self.lines = []
        self.undos = []
        self.session = None
        self.changed = True

    def ask(self, line):
        """Do a command, and return the lines of the answer."""
        word, space, rest = line.partition(" ")
        if "\n" in line:
            return [_NO_COMMAND]
        if word in ("put", "set"):
            digits, behind, text = rest.partition(" ")
            return self.change(word, digits, text) if behind and _is_number(digits) else [_NO_COMMAND]
        if word == "drop" and _is_number(rest):
            return self.change(word, rest, "")
        if line == "undo":
            return self.undo()
        if line == "text":
            return [self.counted(), *["= " + text for text in self.lines]]
        if line in ("build", "cost", "check") or word == "page" and _is_number(rest) or word == "where" and space:
            return self.ask_layout(word, rest)
        return [_NO_COMMAND]

    def counted(self):
        return f"lines {len(self.lines)}"

    def change(self, word, digits, text):
        """Put, set or drop a line."""
        at = int(digits) - 1
        most = len(self.lines) if word == "put" else len(self.lines) - 1
        if not 0 <= at <= most:
            return [_NO_PLACE]
        self.undos.append(self.lines)
        new = [] if word == "drop" else [text]
        behind = at if word == "put" else at + 1
        return self.take(self.lines[:at] + new + self.lines[behind:])

    def undo(self):
        """Take the last change back."""
        if not self.undos:
            return ["error undo"]
        return self.take(self.undos.pop())

    def take(self, lines):
        """Have other lines from now on."""
        self.lines = lines
        self.changed = True
        return [self.counted()]

    def ask_layout(self, word, rest):
        """Answer a command that needs the text to be laid out."""
        failure = self.failure()
        if failure != "":
            return [failure]
        if word == "page":
            return self.written_page(int(rest))
        if word == "where":
            return [self.where(rest)]
        if word == "build":
            return [self.numbers_told()]
        return [self.cost() if word == "cost" else self.check()]

    def failure(self):
        """Lay out the text, and tell the error that this raises, or nothing."""
        try:
            self.lay_out()
        except MarkError as mark:
            return f"error MarkError {mark.line} {mark.column}"
        except LabelError as wrong:
            return f"error LabelError {wrong.label}"
        except GlyphError as glyph:
            return f"error GlyphError {glyph.at}"
        except BreakError as line:
            return f"error BreakError {line.at}"
        except PageError as sheet:
            return f"error PageError {sheet.at}"
        except TableError as table:
            return f"error TableError {table.at}"
        except CircleError as circle:
            return f"error CircleError {len(circle.rounds)}"
        return ""

    def lay_out(self):
        """Lay out the text if it was changed since this was last done."""
        if not self.changed:
            return
        document = read("\n".join(self.lines))
        if self.session is None:
            self.session = Session(document, self.style)
        else:
            self.session.edit(difference(self.session.document, document))
        self.changed = False

    def numbers_told(self):
        """Tell the numbers of the pages, of the rounds, and of what was made and is the same."""
        pages, rounds = len(self.session.layout.placed), len(self.session.tables)
        return f"pages {pages} rounds {rounds} made {self.session.made} same {self.session.same}"

    def written_page(self, number):
        """Return the lines of a page in the page language."""
        pages = self.session.layout.placed
        if not 1 <= number <= len(pages):
            return ["none"]
        return write_pages([pages[number - 1]]).split("\n")[:-1]

    def where(self, label):
        """Tell the number and the page of what has a label."""
        numbers = numbers_of(self.session.document)
        if label not in numbers.labels:
            return "none"
        number, entry = numbers.labels[label]
        return f"number {number} page {self.session.layout.table[numbers.order.index(entry)]}"

    def broken(self):
        """Return what is made of the sources but those of notes and of rows of tables."""
        return [one for one in self.session.layout.made if one.source[0] != "row"]

    def cost(self):
        """Tell the costs of the breaks and of the pages."""
        costs = line_costs(self.style)
        of_lines = sum([cost_of(one.parts, self.style[2], self.style[7], costs, one.breaks) for one in self.broken()])
        layout = self.session.layout
        return f"lines {of_lines} pages {total_cost(layout.matter, layout.pages)}"

    def check(self):
        """Tell whether the papers of the lines and of the pages are right."""
        costs = line_costs(self.style)
        layout = self.session.layout
        for one in self.broken():
            if not judge(one.parts, self.style[2], self.style[7], costs, one.breaks, one.paper):
                return "wrong"
        return "right" if accepted(layout.matter, layout.pages, paper(layout.matter)) else "wrong"


def _is_number(text):
    return 1 <= len(text) <= _MOST_DIGITS and all([is_digit(sign) for sign in text])

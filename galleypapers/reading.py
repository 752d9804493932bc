"""Documents as they are to be read on pages, and lines of pages that read them (points 18.3 to 18.5)."""

from galleypapers.extraction import lines_of
from galleypapers.fonts import SOFT, extents, text_of, width
from galleypapers.hyphens import Divider
from galleypapers.items import SPACE, TIE, tokens_of
from galleypapers.references import sources
from galleypapers.tables import column_gap

_USES = ("text", "strong", "note", "head1", "head2")
_NO_HYPHENS = ("hyphens", (), (), 1, 1)


class Line:
    """A line of a page: its rows, the height and depth of its glyphs, and its top and bottom on the page."""

    def __init__(self, rows, fonts):
        self.rows = rows
        sizes = [extents(fonts[use], [glyph for glyph in glyphs if glyph != SOFT]) for _, _, use, glyphs in rows]
        self.height = max([height for height, _ in sizes])
        self.depth = max([depth for _, depth in sizes])
        self.top = rows[0][1] - self.height
        self.bottom = rows[0][1] + self.depth


def page_lines(page, fonts):
    """Return the lines of a page for all uses."""
    return [Line(rows, fonts) for rows in lines_of(page, _USES)]


class Text:
    """The characters of the words of a source, or of a cell of a row of a table.

    `signs` has the characters with their uses. `word_ends` and `cuts` tell behind
    how many of them a word ends, and behind how many a line may end within a word.
    `notes` has for each note its number and how many characters come before the end
    of its mark; `marks` how many come before each mark of the index.
    """

    def __init__(self, runs, use, first_note, divider):
        self.signs = []
        self.word_ends = {}
        self.cuts = {}
        self.notes = []
        self.marks = []
        tokens, _ = tokens_of(runs, use, first_note)
        for token in tokens:
            if token in (SPACE, TIE):
                self.word_ends[len(self.signs)] = True
            else:
                self.add_piece(token, divider)
        self.end = len(self.signs)
        self.word_ends[self.end] = True

    def add_piece(self, piece, divider):
        use, text, notes = piece
        start = len(self.signs)
        self.signs.extend([(sign, use) for sign in text])
        if text == "":
            self.marks.append(start)
        elif notes:
            self.notes.append((notes[0], len(self.signs)))
        else:
            behind_hyphens = [at for at in range(1, len(text)) if text[at - 1] == "-"]
            for at in [*divider.points(text), *behind_hyphens]:
                self.cuts[start + at] = True

    def read_line(self, place, rows, fonts):
        """Return the place behind what a line reads from a place on, or None if it cannot be read."""
        earlier = None
        first = place
        for row in rows:
            text = text_of(row[3])
            if text != "":
                if earlier is not None and not self.goes_on(place, earlier, row, fonts):
                    return None
                if not self.has_at(place, text, row[2]):
                    return None
                place += len(text)
                earlier = row
        return place if place > first and self.may_end(place, rows[-1][3][-1] == SOFT) else None

    def has_at(self, place, text, use):
        """Tell whether at a place stands a text of a use that is all of one word."""
        if self.signs[place:place + len(text)] != [(sign, use) for sign in text]:
            return False
        return not any([place + at in self.word_ends for at in range(1, len(text))])

    def goes_on(self, place, earlier, row, fonts):
        """Tell whether a row stands where it must behind another one, if so many characters have been read."""
        x, _, use, glyphs = row
        left, _, earlier_use, earlier_glyphs = earlier
        right = left + width(fonts[earlier_use], earlier_glyphs)
        if place in self.word_ends:
            return x > right
        if x == right:
            return True
        return use == earlier_use and x == right + fonts[use][3].get((earlier_glyphs[-1], glyphs[0]), 0)

    def may_end(self, place, soft):
        """Tell whether a line may end at a place, with a soft hyphen or without."""
        if place in self.word_ends:
            return not soft
        return place in self.cuts and soft == (self.signs[place - 1][0] != "-")


class Block:
    """A block of lines: one text, or one for each cell of a row of a table, with the left edges of these.

    `asked` tells whether a new page is asked for ahead of it. `page` is the page
    that is told for a head, and `mark_pages` has those of its marks of the index.
    """

    def __init__(self, kind, texts, edges, asked):
        self.kind = kind
        self.texts = texts
        self.edges = edges
        self.asked = asked
        self.page = None
        self.mark_pages = []

    def first_places(self):
        """Return the places at which all of its texts begin."""
        return (0,) * len(self.texts)

    def is_ended(self, places):
        return all([place == text.end for place, text in zip(places, self.texts)])

    def read_line(self, places, rows, fonts):
        """Return the places behind what a line reads from places on, or None if it cannot be read."""
        found = []
        for at, text in enumerate(self.texts):
            its_rows = rows
            if at > 0:
                its_rows = [row for row in its_rows if row[0] >= self.edges[at]]
            if at + 1 < len(self.texts):
                its_rows = [row for row in its_rows if row[0] < self.edges[at + 1]]
            place = places[at]
            if place < text.end:
                place = text.read_line(place, its_rows, fonts)
            elif its_rows:
                place = None
            if place is None:
                return None
            found.append(place)
        return tuple(found)

    def notes_between(self, places, later):
        """Return the numbers of the notes whose marks are read on the way from places to later ones."""
        return [number for text, first, last in zip(self.texts, places, later)
                for number, at in text.notes if first < at <= last]

    def marks_fit(self, places, later, page, page_before):
        """Tell whether the marks of the index that a line of a page decides on are told rightly.

        `page_before` is the page of the line before it.
        """
        if self.kind == "row":
            # All cells begin with the first line, and the row stands on one page.
            return places != self.first_places() or all([told == page for told in self.mark_pages])
        text = self.texts[0]
        first, last = places[0], later[0]
        for at, told in zip(text.marks, self.mark_pages):
            if first <= at < last or at == last == text.end:
                behind_first = at == first > 0 and told == page_before
                if told != page and not behind_first:
                    return False
        return True


class Floating:
    """A float: its text, its height, the page that is told for it, and where it has its place.

    So many blocks are `ahead` of it; `asked` tells whether a new page is asked for
    between the last one of these and the float.
    """

    def __init__(self, text, height, page, ahead, asked):
        self.text = text
        self.height = height
        self.page = page
        self.ahead = ahead
        self.asked = asked


class Whole:
    """The blocks, floats and notes of a document, with what a table tells of them."""

    def __init__(self, document, style, table):
        found, numbers = sources(document, style, table)
        self.style = style
        self.divider = Divider(style[11])
        self.blocks = []
        self.floats = []
        self.notes = []
        self.told = {"head": [], "float": [], "mark": []}
        for (kind, _), page in zip(numbers.order, table):
            self.told[kind].append(page)
        asked = False
        for source in found:
            if source[0] == "page":
                asked = self.blocks != []
            elif source[0] == "float":
                self.add_float(source, asked)
            else:
                self.add_block(source, asked)
                asked = False

    def add_float(self, source, asked):
        text = Text(source[1], source[2], 0, self.divider)
        page = self.told["float"][len(self.floats)]
        self.floats.append(Floating(text, source[5], page, len(self.blocks), asked))

    def add_block(self, source, asked):
        kind, runs, use, room, first_note = source
        if kind == "row":
            block = self.row_block(runs, room, first_note, asked)
        else:
            block = Block(kind, [Text(runs, use, first_note, self.divider)], [0], asked)
            self.add_notes(runs)
        if kind == "head":
            block.page = self.told["head"].pop(0)
        many = sum([len(text.marks) for text in block.texts])
        block.mark_pages = self.told["mark"][:many]
        self.told["mark"] = self.told["mark"][many:]
        self.blocks.append(block)

    def row_block(self, cells, widths, first_note, asked):
        """Return the block of a row of a table; its words are not divided by patterns."""
        divider = Divider(_NO_HYPHENS)
        texts = []
        edges = []
        edge = 0
        for runs, wide in zip(cells, widths):
            texts.append(Text(runs, "", first_note, divider))
            first_note += len(texts[-1].notes)
            edges.append(edge)
            edge += wide + column_gap(self.style)
            self.add_notes(runs)
        return Block("row", texts, edges, asked)

    def add_notes(self, runs):
        for run in runs:
            if run[0] == "note":
                number = f"{len(self.notes) + 1} "
                self.notes.append(Text([("text", "text", number), *run[1]], "note", 0, self.divider))

"""Audits: the first fault of pages, whoever made them (points 18.1 to 18.8)."""

from galleypapers.fonts import SOFT, width
from galleypapers.reading import Whole, page_lines
from galleypapers.vertical import flow_of, gap_between, line_gap

# What has to be kept, each kind with all kinds before it.
_WORDS = 0
_RULES = 1
_DISTANCES = 2
_FAULTS = ("words", "rules", "distances")


def audit(document, style, table, pages):
    """Return the first fault of pages, or None."""
    fonts = style[1]
    if not _form_fits(fonts, pages):
        return "form"
    whole = Whole(document, style, table)
    lines = [page_lines(page, fonts) for page in pages]
    if not all([_line_fits(line.rows, fonts, style[2]) for of_page in lines for line in of_page]):
        return "lines"
    for level in (_WORDS, _RULES, _DISTANCES):
        if not _can_be_read(whole, style, lines, level):
            return _FAULTS[level]
    return None


def _form_fits(fonts, pages):
    if [page[1] for page in pages] != list(range(1, len(pages) + 1)):
        return False
    return all([_row_fits(fonts, row) for page in pages for row in page[2]])


def _row_fits(fonts, row):
    _, _, use, glyphs = row
    return use in fonts and glyphs != [] and all([glyph in fonts[use][2] for glyph in glyphs])


def _line_fits(rows, fonts, measure):
    """Tell whether a line stands within the measure, and its rows stand one behind the other."""
    if rows[0][0] < 0 or any([x + width(fonts[use], glyphs) > measure for x, _, use, glyphs in rows]):
        return False
    edges = [x for x, _, _, glyphs in rows if any([glyph != SOFT for glyph in glyphs])]
    # Edges that are there twice are lost in the set.
    return edges != [] and edges == sorted(set(edges))


def _can_be_read(whole, style, lines, level):
    """Tell whether there is a reading of pages that keeps what has to be kept."""
    if not _floats_fit(whole, flow_of(style)[6], len(lines), level):
        return False
    beginning = whole.blocks[0].first_places() if whole.blocks else ()
    states = [(0, beginning, 0, 0)]
    for at, of_page in enumerate(lines):
        reader = PageReader(whole, style, at + 1, of_page, level)
        found = {later: True for state in states for later in reader.states_behind(state)}
        states = list(found)
    return any([block == len(whole.blocks) for block, _, _, _ in states])


def _floats_fit(whole, most, pages, level):
    """Tell whether the pages of floats are there and, as a rule, in order and not too full."""
    told = [one.page for one in whole.floats]
    if level >= _RULES:
        if told != sorted(told) or any([told.count(page) > most for page in told]):
            return False
    return all([1 <= page <= pages for page in told])


class PageReader:
    """A page that is read from some state of the main flow on.

    A state is the index of a block, the places up to which its texts have been
    read, the number of its lines so far, and the page of the last line. The rooms
    above lines have to be allowed by gaps, one for each line that has been read.
    """

    def __init__(self, whole, style, page, lines, level):
        self.whole = whole
        self.fonts = style[1]
        self.flow = flow_of(style)
        self.page = page
        self.lines = lines
        self.level = level
        self.floats = [one for one in whole.floats if one.page == page]
        self.float_gaps = self.read_floats()

    def read_floats(self):
        """Return the gaps of the lines of the floats of the page, or None if they cannot be read."""
        gaps = []
        for one in self.floats:
            height, stretch, shrink = self.flow[3]["float"] if gaps else (0, 0, 0)
            more = self.read_text(one.text, len(gaps), (height + one.height, stretch, shrink))
            if more is None:
                return None
            gaps.extend(more)
        return gaps

    def read_text(self, text, at, gap):
        """Return the gaps of the lines from one on that read a text, or None; the first gap is given."""
        gaps = []
        place = 0
        while place < text.end:
            if at == len(self.lines):
                return None
            gaps.append(gap if place == 0 else self.gap_within(at))
            place = text.read_line(place, self.lines[at].rows, self.fonts)
            if place is None:
                return None
            at += 1
        return gaps

    def gap_within(self, at):
        """Return the gap above a line that has the line above it in its block."""
        return (line_gap(self.flow, self.lines[at - 1].depth, self.lines[at].height), 0, 0)

    def states_behind(self, state):
        """Return all states in which the page can end if it begins in a state."""
        if self.float_gaps is None:
            return []
        found = []
        gaps = list(self.float_gaps)
        notes = []
        here = 0
        step = (state, here, [], None)
        while step is not None:
            state, here, its_notes, gap = step
            notes.extend(its_notes)
            gaps.extend([] if gap is None else [gap])
            if self.page_fits(state, gaps, notes):
                found.append(state)
            step = self.read_main(state, len(gaps), here)
        return found

    def read_main(self, state, at, here):
        """Read a line of the main flow behind so many lines of the block on this page.

        Return the state behind it, the number of lines of its block then, the notes
        whose marks are on it, and its gap; or None if this is not possible.
        """
        block, places, count, page_before = state
        if at == len(self.lines) or block == len(self.whole.blocks):
            return None
        one = self.whole.blocks[block]
        later = one.read_line(places, self.lines[at].rows, self.fonts)
        if later is None or not one.marks_fit(places, later, self.page, page_before):
            return None
        if count == 0 and not self.may_begin(one, at):
            return None
        gap = self.gap_above(block, count, at)
        notes = one.notes_between(places, later)
        if not one.is_ended(later):
            return (block, later, count + 1, self.page), here + 1, notes, gap
        if self.level >= _RULES and here < count and here + 1 < self.flow[8]:
            return None
        beginning = ()
        if block + 1 < len(self.whole.blocks):
            beginning = self.whole.blocks[block + 1].first_places()
        return (block + 1, beginning, 0, self.page), 0, notes, gap

    def may_begin(self, block, at):
        """Tell whether a block may begin with a line of the page."""
        if block.page is not None and block.page != self.page:
            return False
        return self.level < _RULES or not block.asked or at == len(self.float_gaps)

    def gap_above(self, block, count, at):
        """Return the gap above a line of the main flow, ahead of which so many of its block stand."""
        if at == len(self.float_gaps):
            return self.flow[3]["float"] if self.floats else (0, 0, 0)
        room, _, _ = self.gap_within(at)
        if count > 0:
            return (room, 0, 0)
        blocks = self.whole.blocks
        height, stretch, shrink = gap_between(blocks[block - 1].kind, blocks[block].kind, self.flow[3])
        return (height + room, stretch, shrink)

    def page_fits(self, state, gaps, notes):
        """Tell whether a page can end in a state, with some notes behind the lines that have been read."""
        all_gaps = list(gaps)
        for number in sorted(notes):
            height, _, shrink = self.flow[3]["note"]
            # Above the first note there may be any more room, as if the gap had some stretch.
            gap = (height, 1, shrink) if len(all_gaps) == len(gaps) else (0, 0, 0)
            more = self.read_text(self.whole.notes[number - 1], len(all_gaps), gap)
            if more is None:
                return False
            all_gaps.extend(more)
        if len(all_gaps) != len(self.lines):
            return False
        if self.level >= _RULES and not self.rules_hold(state, len(gaps)):
            return False
        return self.level < _DISTANCES or self.distances_hold(all_gaps)

    def rules_hold(self, state, at):
        """Tell whether a page that ends in a state keeps the rules; its notes begin with a line."""
        block, _, count, _ = state
        blocks = self.whole.blocks
        if at == len(self.float_gaps) and (block < len(blocks) or not self.floats):
            return False
        if count > 0 and (blocks[block].kind in ("head", "row") or count < self.flow[8]):
            return False
        if count == 0 and 0 < block < len(blocks) and blocks[block - 1].kind == "head" and not blocks[block].asked:
            return False
        for one in self.floats:
            # Behind a new page, its place is behind the beginning of the next block.
            if block < one.ahead or one.asked and block == one.ahead < len(blocks) and count == 0:
                return False
        return at == len(self.lines) or self.lines[-1].bottom - self.lines[at].top <= self.flow[7]

    def distances_hold(self, gaps):
        """Tell whether the rooms above all lines are allowed by gaps, and the last line stands on the page."""
        bottom = 0
        for line, (height, stretch, shrink) in zip(self.lines, gaps):
            room = line.top - bottom
            if room < height - shrink or stretch == 0 and room > height:
                return False
            bottom = line.bottom
        return bottom <= self.flow[5]

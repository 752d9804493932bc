"""A slow audit: all readings of pages, each looked at as a whole (points 18.2 to 18.7)."""

from galleypapers.fonts import SOFT, extents, text_of, width
from galleypapers.hyphens import points
from galleypapers.references import sources
from galleypapers.vertical import flow_of, gap_between

USES = ["text", "strong", "note", "head1", "head2"]


def slow_lines(page):
    """The lines of a page, each a list of rows."""
    return [sorted([row for row in page[2] if row[1] == y], key=lambda row: row[0]) for y in sorted({row[1] for row in page[2]})]


def form_fits(style, pages):
    for at, page in enumerate(pages):
        for _, _, use, glyphs in page[2]:
            if use not in USES or not glyphs or not set(glyphs) <= set(style[1][use][2]):
                return False
        if page[1] != at + 1:
            return False
    return True


def line_fits(style, rows):
    last = None
    for x, _, use, glyphs in rows:
        if x < 0 or x + width(style[1][use], glyphs) > style[2]:
            return False
        if set(glyphs) != {SOFT}:
            if last is not None and x <= last:
                return False
            last = x
    return last is not None


class SlowText:
    """The characters of runs, each (sign, use, word, piece, its index in the piece)."""

    def __init__(self, runs, use, first, hyphens):
        self.signs, self.notes, self.marks, self.pieces = [], {}, [], []
        self.hyphens = hyphens
        word = 0
        for run in runs:
            self.pieces.append("")
            if run[0] == "text":
                for sign in run[2]:
                    if sign == " ":
                        word += 1
                        self.pieces.append("")
                    else:
                        self.add(sign, use or run[1], word)
            elif run[0] == "note":
                for sign in str(first + len(self.notes)):
                    self.add(sign, "note", word)
                self.notes[first + len(self.notes)] = len(self.signs) - 1
                # The marks of notes are never parted.
                self.pieces[-1] = None
            elif run[0] == "mark":
                self.marks.append(len(self.signs))
            else:
                word += 1

    def add(self, sign, use, word):
        self.signs.append((sign, use, word, len(self.pieces) - 1, len(self.pieces[-1])))
        self.pieces[-1] += sign

    def behind(self, place, rows, fonts):
        """The place behind a line, or None."""
        first = place
        earlier = None
        for x, _, use, glyphs in rows:
            for at, sign in enumerate(text_of(glyphs)):
                if place == len(self.signs) or self.signs[place][:2] != (sign, use):
                    return None
                if place > first:
                    same = self.signs[place][2] == self.signs[place - 1][2]
                    if at > 0 and not same:
                        return None
                    if at == 0:
                        right = earlier[0] + width(fonts[earlier[2]], earlier[3])
                        kern = fonts[use][3].get((earlier[3][-1], glyphs[0]), 0) if use == earlier[2] else 0
                        if not (x in (right, right + kern) if same else x > right):
                            return None
                place += 1
            if text_of(glyphs):
                earlier = (x, 0, use, glyphs)
        if place == first:
            return None
        soft = rows[-1][3][-1] == SOFT
        before = self.signs[place - 1]
        if place == len(self.signs) or self.signs[place][2] != before[2]:
            return None if soft else place
        if self.signs[place][3] != before[3] or self.pieces[before[3]] is None:
            return None
        if before[0] == "-":
            return None if soft else place
        return place if soft and self.signs[place][4] in points(self.hyphens, self.pieces[before[3]]) else None


class SlowWhole:
    """All blocks, floats and notes: lists of (kind, texts, edges, asked ahead), floats with heights and places."""

    def __init__(self, document, style, table):
        found, numbers = sources(document, style, table)
        self.style, self.flow = style, flow_of(style)
        self.order = list(zip(numbers.order, table))
        self.blocks, self.floats, self.notes = [], [], []
        asked = False
        for source in found:
            if source == ("page",):
                asked = True
                continue
            if source[0] == "float":
                self.floats.append((SlowText(source[1], "note", 0, style[11]), source[5], len(self.blocks),
                                    asked and self.blocks != []))
                continue
            kind, runs, use, room, first = source
            cells, edges = [runs], [0]
            hyphens = style[11]
            if kind == "row":
                cells, hyphens = runs, ("hyphens", [], [], 1, 1)
                edges = [sum(room[:at]) + at * 2 * style[6][0] for at in range(len(room))]
            texts = []
            for cell in cells:
                texts.append(SlowText(cell, use, first, hyphens))
                first += len(texts[-1].notes)
                for run in cell:
                    if run[0] == "note":
                        number = len(self.notes) + 1
                        self.notes.append(SlowText([("text", "text", f"{number} "), *run[1]], "note", 0, style[11]))
            self.blocks.append((kind, texts, edges, asked and self.blocks != []))
            asked = False


def whole_text(text, lines, at, fonts):
    """The indexes of the lines that read a text from one on, or None."""
    place, found = 0, []
    while place < len(text.signs):
        if at == len(lines):
            return None
        place = text.behind(place, lines[at], fonts)
        if place is None:
            return None
        found.append(at)
        at += 1
    return found


def block_behind(block, places, rows, fonts):
    _, texts, edges, _ = block
    found = []
    for at, text in enumerate(texts):
        mine = [row for row in rows if (at == 0 or row[0] >= edges[at]) and (at + 1 == len(edges) or row[0] < edges[at + 1])]
        if places[at] == len(text.signs):
            if mine:
                return None
            found.append(places[at])
            continue
        place = text.behind(places[at], mine, fonts)
        if place is None:
            return None
        found.append(place)
    return found


def page_ways(whole, lines, floats, start):
    """All ways to read a page: where the main flow stands then, and the lines: (kind, number, line, from, to)."""
    fonts = whole.style[1]
    log = []
    for number in floats:
        found = whole_text(whole.floats[number][0], lines, len(log), fonts)
        if found is None:
            return
        log += [("float", number, at, None, None) for at in found]
    block, places = start
    notes = []
    while True:
        its_log, at = list(log), len(log)
        for number in sorted(notes):
            found = whole_text(whole.notes[number - 1], lines, at, fonts)
            if found is None:
                break
            its_log += [("note", number, one, None, None) for one in found]
            at += len(found)
        else:
            if at == len(lines):
                yield (block, places), its_log
        if block == len(whole.blocks) or len(log) == len(lines):
            return
        later = block_behind(whole.blocks[block], places, lines[len(log)], fonts)
        if later is None:
            return
        log.append(("main", block, len(log), places, later))
        for text, first, last in zip(whole.blocks[block][1], places, later):
            notes += [number for number, at in text.notes.items() if first <= at < last]
        block, places = after(whole, block, later)


def after(whole, block, places):
    if places == [len(text.signs) for text in whole.blocks[block][1]]:
        block += 1
        places = [0] * len(whole.blocks[block][1]) if block < len(whole.blocks) else []
    return block, places


def readings(whole, pages, start=None, at=0):
    """All readings of pages, one list of logs for each."""
    if start is None:
        start = (0, [0] * len(whole.blocks[0][1]) if whole.blocks else [])
    if at == len(pages):
        if start[0] == len(whole.blocks):
            yield []
        return
    told = [page for (kind, _), page in whole.order if kind == "float"]
    floats = [number for number, page in enumerate(told) if page == at + 1]
    for later, log in page_ways(whole, slow_lines(pages[at]), floats, start):
        for rest in readings(whole, pages, later, at + 1):
            yield [log, *rest]


def told_rightly(whole, reading):
    """Tell whether heads, floats and marks stand where the table tells."""
    on_page = {}
    for at, log in enumerate(reading):
        for kind, block, _, places, later in log:
            if kind == "main":
                on_page.setdefault(block, at + 1)
                for cell, (first, last) in enumerate(zip(places, later)):
                    on_page.update({(block, cell, place): at + 1 for place in range(first, last)})
    heads = [on_page[number] for number, block in enumerate(whole.blocks) if block[0] == "head"]
    marks = []
    for number, (kind, texts, _, _) in enumerate(whole.blocks):
        for text in texts:
            marks += [[on_page[number]] if kind == "row" else [
                on_page.get((number, 0, place)) for place in (mark - 1, mark)] for mark in text.marks]
    for (kind, number), page in whole.order:
        if kind == "head" and heads[number] != page or kind == "mark" and page not in marks[number]:
            return False
        if kind == "float" and not 1 <= page <= len(reading):
            return False
    return True


def tops(whole, page):
    """The tops, bottoms, heights and depths of the lines of a page."""
    found = []
    for rows in slow_lines(page):
        sizes = [extents(whole.style[1][use], [glyph for glyph in glyphs if glyph != SOFT]) for _, _, use, glyphs in rows]
        height, depth = (max(size[k] for size in sizes) for k in (0, 1))
        found.append((rows[0][1] - height, rows[0][1] + depth, height, depth))
    return found


def rules_hold(whole, reading, pages):
    _, _, _, _, _, _, most, most_notes, keep = whole.flow
    main = [[one for one in log if one[0] == "main"] for log in reading]
    told = [page for (kind, _), page in whole.order if kind == "float"]
    if told != sorted(told) or any(told.count(page) > most for page in told):
        return False
    behind = []
    state = (0, [])
    for its_lines in main:
        for _, block, _, _, later in its_lines:
            state = after(whole, block, later)
        behind.append(state)
    for at, its_lines in enumerate(main):
        if not its_lines and not (behind[at][0] == len(whole.blocks) and at + 1 in told):
            return False
        for number, one in enumerate(its_lines):
            begins = set(one[3]) == {0}
            if begins and whole.blocks[one[1]][3] and number > 0:
                return False
        block, places = behind[at]
        within = any(places)
        if within:
            counts = [len([one for one in its_lines if one[1] == block]) for its_lines in main]
            last = max(number for number, many in enumerate(counts) if many)
            if whole.blocks[block][0] in ("head", "row") or sum(counts[:at + 1]) < keep or counts[last] < keep:
                return False
        elif 0 < block < len(whole.blocks) and whole.blocks[block - 1][0] == "head" and not whole.blocks[block][3]:
            return False
        for number, page in enumerate(told):
            _, _, ahead, asked = whole.floats[number]
            if page == at + 1:
                if block < ahead or asked and ahead < len(whole.blocks) and (block, within) == (ahead, False):
                    return False
        sizes = [tops(whole, pages[at])[one[2]] for one in reading[at] if one[0] == "note"]
        if sizes and sizes[-1][1] - sizes[0][0] > most_notes:
            return False
    return True


def allowed(room, gap):
    return room >= gap[0] - gap[2] and (gap[1] > 0 or room <= gap[0])


def distances_hold(whole, reading, pages):
    _, leading, least, gaps, _, height, _, _, _ = whole.flow
    for page, log in zip(pages, reading):
        sizes = tops(whole, page)
        for at, (kind, number, *_) in enumerate(log):
            room = sizes[at][0] - (sizes[at - 1][1] if at else 0)
            before = log[at - 1] if at else (None, None)
            near = max(leading - sizes[at - 1][3] - sizes[at][2], least) if at else None
            if before[:2] == (kind, number):
                good = room == near
            elif kind == "float":
                its_height = whole.floats[number][1]
                good = room == its_height if at == 0 else allowed(room, (gaps["float"][0] + its_height, *gaps["float"][1:]))
            elif kind == "note":
                good = room == 0 if before[0] == "note" else room >= gaps["note"][0] - gaps["note"][2]
            elif before[0] == "float":
                good = allowed(room, gaps["float"])
            elif at == 0:
                good = room == 0
            else:
                gap = gap_between(whole.blocks[before[1]][0], whole.blocks[number][0], gaps)
                good = allowed(room, (gap[0] + near, *gap[1:]))
            if not good:
                return False
        if sizes and sizes[-1][1] > height:
            return False
    return True


def slow_audit(document, style, table, pages):
    if not form_fits(style, pages):
        return "form"
    whole = SlowWhole(document, style, table)
    if not all(line_fits(style, rows) for page in pages for rows in slow_lines(page)):
        return "lines"
    found = [reading for reading in readings(whole, pages) if told_rightly(whole, reading)]
    if not found:
        return "words"
    found = [reading for reading in found if rules_hold(whole, reading, pages)]
    if not found:
        return "rules"
    return None if [reading for reading in found if distances_hold(whole, reading, pages)] else "distances"

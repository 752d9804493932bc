"""What single pages have to keep, and what they cost (points 10.3 to 10.6)."""

_WORST = 10000


class PageRules:
    """A flow and the heights of floats, with what they ask of single pages."""

    def __init__(self, floats, flow):
        self.height, self.most, self.most_notes = flow[5:8]
        self.note_gap = flow[3]["note"]
        self.float_gap = flow[3]["float"]
        self.late = flow[4]["late"]
        self.float_heights = [0]
        for height in floats:
            self.float_heights.append(self.float_heights[-1] + height)

    def with_notes(self, height, stretch, shrink, note_heights, notes):
        """Return the height, stretch and shrink of a page without floats, or None if it is not allowed."""
        if notes > 0:
            height += note_heights + self.note_gap[0]
            stretch += self.note_gap[1]
            shrink += self.note_gap[2]
        if height - shrink > self.height or note_heights > self.most_notes:
            return None
        return height, stretch, shrink

    def with_floats(self, size, placed, ahead, at_end):
        """Return the pages that one without floats becomes with some of the next floats.

        So many have been placed, and so many have their place ahead of the end of the
        page. Each page is the number of floats placed then, and its cost without the
        amount of the cost at which it ends.
        """
        found = []
        most = max(placed, min(placed + self.most, ahead))
        for stop in range(placed, most + 1):
            cost = self.cost_with(size, placed, stop, at_end)
            # If it is too high, it is so with more floats, too.
            if cost is None:
                break
            found.append((stop, cost + self.late * max(0, ahead - stop)))
        return found

    def cost_with(self, size, placed, stop, at_end):
        """Return the badness of a page with the next floats, up to a number, or None if it is too high."""
        height, stretch, shrink = size
        many = stop - placed
        height += self.float_heights[stop] - self.float_heights[placed] + many * self.float_gap[0]
        stretch += many * self.float_gap[1]
        shrink += many * self.float_gap[2]
        room = self.height - height
        if room + shrink < 0:
            return None
        if room > 0 and at_end:
            return 0
        return _badness(room, stretch, shrink)


def _badness(room, stretch, shrink):
    if room < 0:
        return 100 * (-room) ** 3 // shrink ** 3
    if room == 0:
        return 0
    if stretch == 0:
        return _WORST
    return min(100 * room ** 3 // stretch ** 3, _WORST)

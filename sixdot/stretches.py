"""Stretches of new sheets between two places of a book: how they are filled, and how far one new sheet can lead."""

from sixdot.places import JOINED, ON, beginning, cells_ahead, farthest, last_place, places


class Stretches:
    """The new sheets between the places of a book, with the best writings as its rows.

    A reach is a pair (last, lacking): the last place to which lines or sheets, as many as told, can lead from a place,
    and the place directly ahead of it if they cannot lead there, otherwise None. To all other places between, if lines
    lead to them at all, so many lines or sheets lead, too.
    """

    def __init__(self, shape, book, rows):
        self.shape = shape
        self.book = book
        self.rows = rows
        self.last = last_place(book)
        self.line_reaches = {}
        self.sheet_reaches = {}

    def line_reach(self, place):
        """Returns the reach of one line from a place."""
        if place not in self.line_reaches:
            last = farthest(self.shape, self.book, self.rows, place, self.last)
            block, cell, _ = last
            # Only with `on` a line leads to a cell that it has no room to reach.
            is_full = cell > cells_ahead(self.shape, self.book, self.rows, place)[-1]
            self.line_reaches[place] = (last, (block, cell, JOINED) if is_full else None)
        return self.line_reaches[place]

    def page_reach(self, place):
        """Returns the reach of one page from a place."""
        last = place
        lacking = None
        many = 0
        is_stopped = False
        while last != self.last and many < self.shape.height - 1 and not is_stopped:
            is_stopped = self.book.blocks[last[0]][0] == "break"
            last, lacking = self.line_reach(last)
            many += 1
        return last, lacking

    def sheet_reach(self, place):
        """Returns the reach of one sheet from a place."""
        if place not in self.sheet_reaches:
            front, _ = self.page_reach(place)
            self.sheet_reaches[place] = self.page_reach(front)
        return self.sheet_reaches[place]

    def line_to(self, place, end):
        """Returns the line that leads from a place to another one."""
        block, cell, _ = place
        further, behind, way = end
        row = self.rows[block]
        if further > block:
            behind = len(row)
        elif way == ON:
            # The cell 0 ahead of this place is left out.
            behind -= 1
        return beginning(self.shape, self.book, place) + tuple(row[cell:behind])

    def page_to(self, place, end):
        """Returns the pair of the lines of a page with as many as can be on the way to an end, and the place behind."""
        lines = []
        while place != end and len(lines) < self.shape.height - 1:
            further = farthest(self.shape, self.book, self.rows, place, end)
            lines.append(self.line_to(place, further))
            place = further
            if lines[-1] == self.shape.marks.stop:
                break
        return lines, place

    def sheets_to(self, place, end):
        """Returns the list of the sides of the new sheets from a place to an end: lists of one or two pages."""
        found = []
        while place != end:
            front, place = self.page_to(place, end)
            back, place = self.page_to(place, end)
            found.append([front, back] if back else [front])
        return found


class Windows:
    """The places to which one new sheet can lead, by the numbers of all places of a book, in ascending order."""

    def __init__(self, stretches):
        self.stretches = stretches
        all_places = places(stretches.rows, stretches.book)
        self.numbers = {place: at for at, place in enumerate(all_places)}
        self.windows = [self.window(place) for place in all_places]

    def window(self, place):
        """Returns a pair of the number behind the last place to which one new sheet can lead from a place, and the list
        of the numbers of those up to it to which none can."""
        last, lacking = self.stretches.sheet_reach(place)
        block, cell, _ = place
        others = [(block, cell, ON), (block, cell + 1, ON), lacking]
        return self.numbers[last] + 1, [self.numbers[other] for other in others if other in self.numbers]

    def values_ahead(self, at, values):
        """Returns the list of those values, one for each place, to whose places a new sheet can lead from a place."""
        stop, left_out = self.windows[at]
        if left_out:
            return [values[number] for number in range(at + 1, stop) if number not in left_out]
        return values[at + 1:stop]

"""Books that are changed: which of the old sheets can stay, the fewest new ones, and bounds that show it."""

from sixdot.places import ON, beginning, leads_to, places, rows_of, sheet_ends
from sixdot.stretches import Stretches
from sixdot.volumes import in_volumes, made_sheet


class Change:
    """Old sheets, and the places of a new book at which they can stay.

    What is known of a renewal from a place on is a tuple (size, many, numbers, begins, ends): its size, the negative of
    the number of old sheets that stay, and the tuples of their numbers and of the places from and to which they lead.
    So the least tuple is that of the renewal that is made.
    """

    def __init__(self, shape, table, volumes, book):
        rows = rows_of(table, book)
        self.shape = shape
        self.book = book
        self.rows = rows
        self.old = [sheet for volume in volumes for sheet in volume]
        self.all_places = places(rows, book)
        self.stretches = Stretches(shape, book, rows)
        # From the first cells of lines to pairs of a place from which such lines can lead, and the longest one of them.
        self.longest = {}
        for place in self.all_places[:-1]:
            begin = beginning(shape, book, place)
            block, cell, _ = place
            line = begin + tuple(rows[block][cell:cell + shape.width - len(begin)])
            self.longest.setdefault(line[:len(begin) + 1], []).append((place, line))
        self.sizes = sorted({len(cells) for cells in self.longest})

    def places_of(self, line):
        """Returns the list of the places from which a line may lead: those with a longest line that begins so."""
        found = []
        for size in [size for size in self.sizes if size <= len(line)]:
            pairs = self.longest.get(line[:size], [])
            found.extend([place for place, longest in pairs if longest[:len(line)] == line])
        return found

    def stays_of(self, number):
        """Returns a dict from the places at which an old sheet can stay to the lists of those to which it leads; an
        empty one for the number of the old sheets."""
        return self.stays(self.old[number]) if number < len(self.old) else {}

    def stays(self, sheet):
        """Returns a dict from the places at which a sheet can stay to the lists of those to which it leads."""
        _, front, _ = sheet
        found = {}
        for place in self.places_of(front[0]) if front else []:
            ends = sheet_ends(self.shape, self.book, self.rows, place, sheet)
            if ends:
                found[place] = ends
        return found

    def best(self):
        """Returns what is known of the renewal that is made."""
        # From places to the best renewals from there on in which, but at the last place, an old sheet stays there.
        known = {self.all_places[-1]: (0, 0, (), (), ())}
        for number in range(len(self.old) - 1, -1, -1):
            begins = sorted(known)
            found = {}
            for place, ends in self.stays_of(number).items():
                found[place] = min([self.best_with(number, place, end, known, begins) for end in ends])
            for place, renewal in found.items():
                known[place] = min(renewal, known.get(place, renewal))
        return self.best_from(self.all_places[0], known, sorted(known))

    def best_with(self, number, place, end, known, begins):
        """Returns the best renewal in which an old sheet leads from a place to another one, and later ones follow."""
        size, many, numbers, places_before, places_behind = self.best_from(end, known, begins)
        return size, many - 1, (number,) + numbers, (place,) + places_before, (end,) + places_behind

    def best_from(self, place, known, begins):
        """Returns the best renewal from a place on; begins is the ascending list of the places that are known."""
        best = None
        size = 0
        last = place
        lacking = None
        for begin in begins:
            if not leads_to(place, begin):
                continue
            while begin > last:
                last, lacking = self.stretches.sheet_reach(last)
                size += 1
            if best is not None and size > best[0]:
                break
            rest = known[begin]
            further = (size + rest[0] + (1 if begin == lacking else 0),) + rest[1:]
            best = further if best is None else min(best, further)
        return best


class Limits:
    """How great the bounds of an old sheet and the places of a book can be, given those of what is further on."""

    def __init__(self, change):
        self.change = change
        self.numbers = {place: at for at, place in enumerate(change.all_places)}
        self.windows = [self.window(place) for place in change.all_places]

    def window(self, place):
        """Returns a pair of the number behind the last place to which one new sheet can lead from a place, and the list
        of the numbers of those up to it to which none can."""
        last, lacking = self.change.stretches.sheet_reach(place)
        block, cell, _ = place
        others = [(block, cell, ON), (block, cell + 1, ON), lacking]
        return self.numbers[last] + 1, [self.numbers[other] for other in others if other in self.numbers]

    def new_bounds(self, at, bounds):
        """Returns the list of the bounds of the places to which one new sheet can lead from that with the number."""
        stop, left_out = self.windows[at]
        if left_out:
            return [bounds[number] for number in range(at + 1, stop) if number not in left_out]
        return bounds[at + 1:stop]

    def limit(self, at, bounds, further, ends):
        """Returns the limit of the bound of the place with the number; the lists have the bounds of all places with its
        old sheet, and with the next one, if there is such a sheet; it leads from the place to the ends."""
        ahead = self.new_bounds(at, bounds)
        found = [1 + min(ahead)] if ahead else []
        if further is not None:
            found.append(further[at])
            found.extend([further[self.numbers[end]] for end in ends])
        # Nothing is further on than the last place, behind all old sheets.
        return min(found, default=0)

    def made(self, further, stays):
        """Returns the list of the greatest bounds of all places with an old sheet."""
        found = [0 for _ in self.windows]
        for at in range(len(found) - 1, -1, -1):
            found[at] = self.limit(at, found, further, stays.get(self.change.all_places[at], []))
        return found

    def hold(self, bounds, further, stays):
        """Returns True if none of the bounds of all places with an old sheet is below 0 or above its limit."""
        for at, place in enumerate(self.change.all_places):
            if not 0 <= bounds[at] <= self.limit(at, bounds, further, stays.get(place, [])):
                return False
        return True


def least_size(shape, table, volumes, book):
    """Returns the size of the renewal that is made."""
    return Change(shape, table, volumes, book).best()[0]


def labels_between(before, after, number):
    """Returns the list of so many labels between two labels, each of which may be None."""
    begin = () if before is None else before
    if after is not None and after[:len(begin)] == begin:
        rest = after[len(begin):]
        begin = begin + (0,)
        for part in rest:
            if part != 0:
                break
            begin = begin + (0,)
    return [begin + (count,) for count in range(1, number + 1)]


def renew(shape, table, volumes, book):
    """Returns a pair of the new volumes and the list of the labels of the new sheets."""
    change = Change(shape, table, volumes, book)
    _, _, numbers, begins, ends = change.best()
    staying = [change.old[number] for number in numbers]
    labels_behind = [sheet[0] for sheet in staying] + [None]
    sheets = []
    new_labels = []
    place = change.all_places[0]
    before = None
    for number, begin in enumerate(list(begins) + [change.all_places[-1]]):
        sides = change.stretches.sheets_to(place, begin)
        labels = labels_between(before, labels_behind[number], len(sides))
        sheets.extend([made_sheet(shape, label, pages) for label, pages in zip(labels, sides)])
        new_labels.extend(labels)
        if number < len(staying):
            sheets.append(staying[number])
            place = ends[number]
            before = staying[number][0]
    return in_volumes(shape, sheets), new_labels


def make_bounds(shape, table, volumes, book):
    """Returns bounds that are accepted; that of 0 and the first place is the least size."""
    change = Change(shape, table, volumes, book)
    limits = Limits(change)
    bounds = {}
    further = None
    for number in range(len(change.old), -1, -1):
        further = limits.made(further, change.stays_of(number))
        for place, bound in zip(change.all_places, further):
            bounds[number, place] = bound
    return bounds


def accepts_bounds(shape, table, volumes, book, bounds):
    """Returns True if the bounds are accepted."""
    change = Change(shape, table, volumes, book)
    pairs = [(number, place) for number in range(len(change.old) + 1) for place in change.all_places]
    if len(bounds) != len(pairs) or any([pair not in bounds for pair in pairs]):
        return False
    limits = Limits(change)
    further = None
    for number in range(len(change.old), -1, -1):
        found = [bounds[number, place] for place in change.all_places]
        if not limits.hold(found, further, change.stays_of(number)):
            return False
        further = found
    return True

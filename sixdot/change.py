"""Books that are changed: which of the old sheets can stay, the fewest new ones, and bounds that show it."""

from sixdot.places import beginning, ends_of_lines, has_pages, leads_to, places, rows_of
from sixdot.shape import room_behind
from sixdot.stretches import Stretches, Windows
from sixdot.volumes import in_volumes, made_sheet

# If more than one of so many places is asked for, it takes less to find the best renewals from all places on.
SHARE = 16


class Change:
    """Old sheets, and the places of a new book at which they can stay.

    What is known of a renewal from a place on is a tuple (size, many, numbers, begins, ends): its size, the negative of
    the number of old sheets that stay, and the tuples of their numbers and of the places from and to which they lead.
    So the least tuple is that of the renewal that is made.
    """

    def __init__(self, shape, table, volumes, book):
        rows = rows_of(table, book)
        self.shape = shape
        self.book = book
        self.rows = rows
        self.old = [sheet for volume in volumes for sheet in volume]
        self.all_places = places(rows, book)
        self.stretches = Stretches(shape, book, rows)
        # What is worked out when it is asked for.
        self.windows = None
        self.known_stays = {}
        # From the first cells of lines to pairs of a place from which such lines can lead, and the longest one of them.
        self.longest = {}
        for place in self.all_places[:-1]:
            begin = beginning(shape, book, place)
            block, cell, _ = place
            line = begin + tuple(rows[block][cell:cell + room_behind(shape, len(begin))])
            self.longest.setdefault(line[:len(begin) + 1], []).append((place, line))
        self.sizes = sorted({len(cells) for cells in self.longest})

    def places_of(self, line):
        """Returns the list of the places from which a line may lead: those with a longest line that begins so."""
        found = []
        for size in [size for size in self.sizes if size <= len(line)]:
            pairs = self.longest.get(line[:size], [])
            found.extend([place for place, longest in pairs if longest[:len(line)] == line])
        return found

    def stays_of(self, number):
        """Returns a dict from the places at which an old sheet can stay to the lists of those to which it leads; an
        empty one for the number of the old sheets."""
        if number == len(self.old) or not has_pages(self.shape, self.old[number]):
            return {}
        _, front, back = self.old[number]
        # Sheets that are equal but for their labels can stay at the same places.
        lines = (front[:-1], back[:-1])
        if lines not in self.known_stays:
            self.known_stays[lines] = self.stays_with(front[:-1], back[:-1])
        return self.known_stays[lines]

    def stays_with(self, front, back):
        """Returns a dict from the places from which the lines of a front and a back lead on to lists of their ends."""
        found = {}
        for place in self.places_of(front[0]):
            behind = ends_of_lines(self.shape, self.book, self.rows, [place], front)
            ends = ends_of_lines(self.shape, self.book, self.rows, behind, back)
            if ends:
                found[place] = ends
        return found

    def best(self):
        """Returns what is known of the renewal that is made."""
        # From places to the best renewals from there on in which, but at the last place, an old sheet stays there.
        known = {self.all_places[-1]: (0, 0, (), (), ())}
        for number in range(len(self.old) - 1, -1, -1):
            stays = self.stays_of(number)
            rests = self.best_from(sorted({end for ends in stays.values() for end in ends}), known)
            for place, ends in stays.items():
                renewal = min([with_stay(number, place, end, rests[end]) for end in ends])
                known[place] = min(renewal, known.get(place, renewal))
        first = self.all_places[0]
        return self.best_from([first], known)[first]

    def best_from(self, begins, known):
        """Returns a dict from some places to the best renewals from there on."""
        if len(begins) * SHARE > len(self.all_places):
            found = self.best_from_all(known)
            return {place: found[place] for place in begins}
        later = sorted(known)
        return {place: self.best_from_one(place, known, later) for place in begins}

    def best_from_one(self, place, known, later):
        """Returns the best renewal from a place on; later is the ascending list of the places that are known."""
        best = None
        size = 0
        last = place
        lacking = None
        for begin in later:
            if not leads_to(place, begin):
                continue
            while begin > last:
                last, lacking = self.stretches.sheet_reach(last)
                size += 1
            if best is not None and size > best[0]:
                break
            further = with_new(size + (1 if begin == lacking else 0), known[begin])
            best = further if best is None else min(best, further)
        return best

    def best_from_all(self, known):
        """Returns a dict from all places to the best renewals from there on."""
        if self.windows is None:
            self.windows = Windows(self.stretches)
        found = [None for _ in self.all_places]
        for at in range(len(found) - 1, -1, -1):
            ahead = self.windows.values_ahead(at, found)
            options = [with_new(1, min(ahead))] if ahead else []
            if self.all_places[at] in known:
                options.append(known[self.all_places[at]])
            found[at] = min(options)
        return {place: renewal for place, renewal in zip(self.all_places, found)}


def with_new(size, rest):
    """Returns what is known of a renewal with so many new sheets ahead of the rest."""
    return (size + rest[0],) + rest[1:]


def with_stay(number, place, end, rest):
    """Returns what is known of a renewal in which an old sheet leads from a place to another one, ahead of the rest."""
    size, many, numbers, begins, ends = rest
    return size, many - 1, (number,) + numbers, (place,) + begins, (end,) + ends


class Limits:
    """How great the bounds of an old sheet and the places of a book can be, given those of what is further on."""

    def __init__(self, change):
        self.all_places = change.all_places
        self.windows = Windows(change.stretches)

    def limit(self, at, bounds, further, ends):
        """Returns the limit of the bound of the place with the number; the lists have the bounds of all places with its
        old sheet, and with the next one, if there is such a sheet; it leads from the place to the ends."""
        ahead = self.windows.values_ahead(at, bounds)
        found = [1 + min(ahead)] if ahead else []
        if further is not None:
            found.append(further[at])
            found.extend([further[self.windows.numbers[end]] for end in ends])
        # Nothing is further on than the last place, behind all old sheets.
        return min(found, default=0)

    def made(self, further, stays):
        """Returns the list of the greatest bounds of all places with an old sheet."""
        found = [0 for _ in self.all_places]
        for at in range(len(found) - 1, -1, -1):
            found[at] = self.limit(at, found, further, stays.get(self.all_places[at], []))
        return found

    def hold(self, bounds, further, stays):
        """Returns True if none of the bounds of all places with an old sheet is below 0 or above its limit."""
        for at, place in enumerate(self.all_places):
            if not 0 <= bounds[at] <= self.limit(at, bounds, further, stays.get(place, [])):
                return False
        return True


def least_size(shape, table, volumes, book):
    """Returns the size of the renewal that is made."""
    return Change(shape, table, volumes, book).best()[0]


def labels_between(before, after, number):
    """Returns the list of so many labels between two labels, each of which may be None."""
    begin = () if before is None else before
    if after is not None and after[:len(begin)] == begin:
        rest = after[len(begin):]
        begin = begin + (0,)
        for part in rest:
            if part != 0:
                break
            begin = begin + (0,)
    return [begin + (count,) for count in range(1, number + 1)]


def renew(shape, table, volumes, book):
    """Returns a pair of the new volumes and the list of the labels of the new sheets."""
    change = Change(shape, table, volumes, book)
    _, _, numbers, begins, ends = change.best()
    staying = [change.old[number] for number in numbers]
    labels_behind = [sheet[0] for sheet in staying] + [None]
    sheets = []
    new_labels = []
    place = change.all_places[0]
    before = None
    for number, begin in enumerate(list(begins) + [change.all_places[-1]]):
        sides = change.stretches.sheets_to(place, begin)
        labels = labels_between(before, labels_behind[number], len(sides))
        sheets.extend([made_sheet(shape, label, pages) for label, pages in zip(labels, sides)])
        new_labels.extend(labels)
        if number < len(staying):
            sheets.append(staying[number])
            place = ends[number]
            before = staying[number][0]
    return in_volumes(shape, sheets), new_labels


def make_bounds(shape, table, volumes, book):
    """Returns bounds that are accepted; that of 0 and the first place is the least size."""
    change = Change(shape, table, volumes, book)
    limits = Limits(change)
    bounds = {}
    further = None
    for number in range(len(change.old), -1, -1):
        further = limits.made(further, change.stays_of(number))
        for place, bound in zip(change.all_places, further):
            bounds[number, place] = bound
    return bounds


def accepts_bounds(shape, table, volumes, book, bounds):
    """Returns True if the bounds are accepted."""
    change = Change(shape, table, volumes, book)
    pairs = [(number, place) for number in range(len(change.old) + 1) for place in change.all_places]
    if len(bounds) != len(pairs) or any([pair not in bounds for pair in pairs]):
        return False
    limits = Limits(change)
    further = None
    for number in range(len(change.old), -1, -1):
        found = [bounds[number, place] for place in change.all_places]
        if not limits.hold(found, further, change.stays_of(number)):
            return False
        further = found
    return True

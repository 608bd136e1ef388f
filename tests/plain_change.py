"""The words of points 43 to 49, taken as plainly as can be, to compare the program with them."""

import plain
from sixdot.shape import Marks, Shape
from sixdot.table import Book, Rule, Table

ORDER = {"first": 0, "joined": 1, "on": 2}


def key(place):
    """Returns what orders places."""
    return place[0], place[1], ORDER[place[2]]


def rows_of(table, book):
    return [[] if block[0] == "break" else plain.best(table, block[-1])[0] for block in book.blocks]


def places(rows):
    """Returns the ascending list of all places, in the words of point 43."""
    found = []
    for k, row in enumerate(rows):
        found.append((k, 0, "first"))
        for c in range(1, len(row)):
            found.append((k, c, "joined"))
            if row[c - 1] == 0 and c - 1 >= 1:
                found.append((k, c, "on"))
    return [*found, (len(rows), 0, "first")]


def ways_on(shape, book, rows, place):
    """Returns the list of all pairs of a line and a place to which it leads from the place."""
    k, cell, way = place
    if k == len(book.blocks):
        return []
    block, row = book.blocks[k], rows[k]
    if block[0] == "break":
        return [(shape.marks.stop, (k + 1, 0, "first"))]
    begin = {"first": plain.begin_of(shape, block), "on": shape.marks.on, "joined": shape.marks.joined}[way]
    found = []
    for further in places(rows):
        if further == (k + 1, 0, "first"):
            piece = row[cell:]
        elif further[0] == k and further[2] == "joined":
            piece = row[cell:further[1]]
        elif further[0] == k and further[2] == "on":
            piece = row[cell:further[1] - 1]
        else:
            continue
        line = begin + tuple(piece)
        if key(further) > key(place) and piece and len(line) <= shape.width:
            found.append((line, further))
    return found


class Ways:
    """All ways on from the places of a book, and what follows of them."""

    def __init__(self, shape, book, rows):
        self.shape, self.book, self.rows = shape, book, rows
        self.places = places(rows)
        self.last = self.places[-1]
        self.on = {place: ways_on(shape, book, rows, place) for place in self.places}
        self.known = {}
        self.sheets_from = {}

    def line_ends(self, place, line):
        return sorted((end for told, end in self.on[place] if told == line), key=key)

    def reaches(self, place, end):
        """Returns True if the place is the end, or lines lead to it."""
        if place not in self.known:
            self.known[place] = {place}.union(*[self.all_from(further) for _, further in self.on[place]])
        return end in self.known[place]

    def all_from(self, place):
        self.reaches(place, place)
        return self.known[place]

    def farthest(self, place, end):
        found = [further for _, further in self.on[place] if self.reaches(further, end)]
        return max(found, key=key, default=None)

    def sheet_ends(self, place, sheet):
        label, front, back = sheet
        found = {place}
        if not front:
            return []
        for page in (front, back):
            if not page and page is back:
                continue
            *lines, number = page
            if not lines or len(page) > self.shape.height or number != self.shape.marks.number + plain.pressed_label(label):
                return []
            if self.shape.marks.stop in lines[:-1]:
                return []
            for line in lines:
                found = {end for begin in found for end in self.line_ends(begin, line)}
        return sorted(found, key=key)

    def page_from(self, place):
        """Returns all places to which a page leads."""
        found, level = set(), {place}
        for _ in range(self.shape.height - 1):
            further = {(line, end) for begin in level for line, end in self.on[begin]}
            found |= {end for _, end in further}
            level = {end for line, end in further if line != self.shape.marks.stop}
        return found

    def sheet_from(self, place):
        """Returns all places to which a new sheet can lead."""
        if place not in self.sheets_from:
            fronts = self.page_from(place)
            self.sheets_from[place] = fronts.union(*[self.page_from(front) for front in fronts])
        return self.sheets_from[place]

    def distances(self, place):
        """Returns a dict from the places to which new sheets lead to the least numbers of them."""
        found, level, many = {place: 0}, {place}, 0
        while level:
            many += 1
            level = {end for begin in level for end in self.sheet_from(begin) if end not in found}
            found.update({end: many for end in level})
        return found

    def renewals(self, old):
        """Returns all renewals, tuples (size, -many, numbers, begins, ends)."""
        stays = [{place: self.sheet_ends(place, sheet) for place in self.places} for sheet in old]
        distances = {place: self.distances(place) for place in self.places}

        def from_place(place, number):
            found = []
            if self.last in distances[place]:
                found.append((distances[place][self.last], 0, [], [], []))
            for j in range(number, len(old)):
                for begin, ends in stays[j].items():
                    if begin not in distances[place]:
                        continue
                    for end in ends:
                        for size, many, numbers, begins, behind in from_place(end, j + 1):
                            found.append((
                                size + distances[place][begin], many - 1, [j, *numbers], [key(begin), *begins], [key(end), *behind],
                            ))
            return found

        return from_place(self.places[0], 0)

    def fill(self, place, end):
        """Returns the list of the sides of the new sheets between two places, in the words of point 48."""
        sheets = []
        while place != end:
            sides = []
            for _ in range(2):
                page = []
                while place != end and len(page) < self.shape.height - 1 and page[-1:] != [self.shape.marks.stop]:
                    further = self.farthest(place, end)
                    page.extend(line for line, told in self.on[place] if told == further)
                    place = further
                sides.append(page)
            sheets.append(sides)
        return sheets


def labels_between(before, after, number):
    """Returns labels, in the words of point 47."""
    a = before or ()
    z = 0
    if after is not None and after[:len(a)] == a:
        z = 1 + next(k for k, part in enumerate(after[len(a):]) if part)
    return [(*a, *[0] * z, k + 1) for k in range(number)]


def renew(shape, table, volumes, book):
    """Returns the volumes and the labels of the renewal that is made."""
    ways = Ways(shape, book, rows_of(table, book))
    old = [sheet for volume in volumes for sheet in volume]
    size, many, numbers, begins, ends = min(ways.renewals(old))
    back = {key(place): place for place in ways.places}
    sheets, labels, place, before = [], [], ways.places[0], None
    for number, begin, end in [*zip(numbers, begins, ends), (None, key(ways.last), None)]:
        sides = ways.fill(place, back[begin])
        after = None if number is None else old[number][0]
        new = labels_between(before, after, len(sides))
        for label, (front, rear) in zip(new, sides):
            line = shape.marks.number + plain.pressed_label(label)
            sheets.append((label, (*front, line), (*rear, line) if rear else ()))
        labels.extend(new)
        if number is not None:
            sheets.append(old[number])
            place, before = back[end], after
    assert len(labels) == size
    return [sheets[k:k + shape.size] for k in range(0, len(sheets), shape.size)], labels


def accepts_bounds(shape, table, volumes, book, bounds):
    """Returns True if bounds are accepted, in the words of point 49."""
    ways = Ways(shape, book, rows_of(table, book))
    old = [sheet for volume in volumes for sheet in volume]
    if set(bounds) != {(j, place) for j in range(len(old) + 1) for place in ways.places}:
        return False
    for (j, place), bound in bounds.items():
        if bound < 0 or (j == len(old) and place == ways.last and bound != 0):
            return False
        if j < len(old):
            if bound > bounds[j + 1, place]:
                return False
            if any(bound > bounds[j + 1, end] for end in ways.sheet_ends(place, old[j])):
                return False
        if any(bound > 1 + bounds[j, end] for end in ways.sheet_from(place)):
            return False
    return True


def made_shape(chance):
    """Returns a small shape, made by chance, also with marks of two cells."""
    marks = chance.choice([
        Marks([60], [61], [[62, 1], [62, 2], [62, 3]], [63], [59], [58], [57], [56]),
        Marks([60, 1], [60, 2], [[62, 1], [62, 2], [62, 3]], [63, 3], [59, 4], [58, 1], [58, 2], [56]),
        Marks([60], [61], [[62, 1], [62, 2], [62, 3]], [63, 3], [59, 4], [58, 1], [58, 0], [56]),
    ])
    return Shape(chance.choice([8, 8, 8, 9, 10, 12]), chance.choice([3, 3, 4, 5]), chance.choice([1, 2, 3]), marks)


def made_table(chance):
    """Returns a table, made by chance, in whose writings many cells are 0, and many are alike."""
    rules = [
        Rule(0, "a", [1], 0), Rule(0, "b", [chance.choice([1, 2])], 0), Rule(0, " ", [0], 0),
        Rule(0, "c", chance.choice([[0], [0, 0], [1, 0], [0, 1]]), 0),
    ]
    if chance.random() < 0.3:
        rules.append(Rule(0, "ab", [0], 0))
    return Table("abc ", 1, rules)


def made_blocks(chance, many):
    """Returns the list of so many blocks, made by chance."""
    blocks = []
    for _ in range(many):
        words = ["".join(chance.choices("abc", weights=[4, 1, 2], k=chance.randint(1, 6))) for _ in range(chance.randint(1, 4))]
        text = " ".join(words)
        blocks.append(chance.choice([
            ("head", text[:4].strip()), ("par", text), ("par", text), ("item", chance.randint(1, 3), text),
            ("note", chance.choice([5, 12]), text), ("break",),
        ]))
    return blocks


def edited(chance, book):
    """Returns a book with some blocks put in, left out and changed, by chance."""
    blocks = list(book.blocks)
    for _ in range(chance.randint(0, 2)):
        at = chance.randint(0, len(blocks))
        left_out, put_in = chance.choice([(0, 1), (1, 0), (1, 1)])
        blocks[at:at + left_out] = made_blocks(chance, put_in)
    return Book(blocks or [("break",)])

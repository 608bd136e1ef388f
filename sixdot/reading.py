"""Rows of cells, read back: spots, readers, and the texts of a row."""

from sixdot.errors import NoText, SeveralTexts, TooLarge
from sixdot.table import BEGINNING, END, Table, has_parts

MOST_TEXTS = 500

# The spot at the beginning.
FIRST_SPOT = (-1, 0)


def is_spot(table, spot):
    """Returns True if a pair of integers is a spot of the table."""
    number, read = spot
    if spot == FIRST_SPOT:
        return True
    if not 0 <= number < len(table.rules):
        return False
    rule = table.rules[number]
    return has_parts(rule) and 1 <= read <= len(rule.cells)


def added_text(table, spot):
    """Returns what going on to a spot adds to the text: that of its rule, with the first of its cells."""
    return table.rules[spot[0]].text if spot[1] == 1 else ""


class Courses:
    """How the spots of a table go on, cell by cell; what was asked once is kept."""

    def __init__(self, table):
        self.table = table
        self.known = {}

    def all_spots(self):
        """Returns the ascending list of the spots of the table."""
        spots = [FIRST_SPOT]
        for number, rule in enumerate(self.table.rules):
            if has_parts(rule):
                spots.extend([(number, read) for read in range(1, len(rule.cells) + 1)])
        return spots

    def bearing(self, spot):
        """Returns what tells how a spot goes on and if it can end: two spots with the same bearing do so alike.

        It is (mode, last sign, behind) if no cells of the spot's rule are left, and otherwise the spot itself.
        """
        if spot == FIRST_SPOT:
            return (0, BEGINNING, None)
        rule = self.table.rules[spot[0]]
        if spot[1] < len(rule.cells):
            return spot
        return (rule.to, rule.text[-1], rule.behind)

    def can_end(self, spot):
        """Returns True if the spot can end."""
        bearing = self.bearing(spot)
        if bearing == spot:
            return False
        _, _, behind = bearing
        return behind is None or END in behind

    def goes_on(self, spot):
        """Returns a dict from cells to the ascending lists of the spots to which the spot goes on by them."""
        bearing = self.bearing(spot)
        if bearing not in self.known:
            if bearing == spot:
                number, read = spot
                self.known[bearing] = {self.table.rules[number].cells[read]: [(number, read + 1)]}
            else:
                self.known[bearing] = self.beginnings(bearing)
        return self.known[bearing]

    def beginnings(self, bearing):
        """Returns a dict from cells to the first spots of the rules that can come next."""
        mode, last, behind = bearing
        found = {}
        for number, rule in enumerate(self.table.rules):
            is_next = rule.mode == mode and has_parts(rule) and (rule.ahead is None or last in rule.ahead)
            if is_next and (behind is None or rule.text[0] in behind):
                found.setdefault(rule.cells[0], []).append((number, 1))
        return found

    def cell_to(self, spot):
        """Returns the cell by which spots go on to this one; None for the beginning."""
        number, read = spot
        return None if spot == FIRST_SPOT else self.table.rules[number].cells[read - 1]

    def spots_before(self):
        """Returns a dict from each spot to the list of the spots that go on to it."""
        before = {spot: [] for spot in self.all_spots()}
        for spot in list(before):
            for spots in self.goes_on(spot).values():
                for further in spots:
                    before[further].append(spot)
        return before

    def distinct(self, spots):
        """Returns the list of some of the spots, one of those that go on alike."""
        found = {self.bearing(spot): spot for spot in spots}
        return list(found.values())

    def further_spots(self, spots, cell):
        """Returns the ascending list of the spots to which one of these goes on by the cell."""
        found = {}
        for spot in self.distinct(spots):
            for further in self.goes_on(spot).get(cell, []):
                found[further] = True
        return sorted(found)

    def all_further(self, spots):
        """Returns a dict from cells to the ascending tuples of the spots to which one of these goes on by them."""
        found = {}
        for spot in self.distinct(spots):
            for cell, further in self.goes_on(spot).items():
                for one in further:
                    found.setdefault(cell, {})[one] = True
        return {cell: tuple(sorted(found[cell])) for cell in found}


def next_spots(table, spot, cell):
    """Returns the ascending list of the spots to which a spot goes on by a cell."""
    return list(Courses(table).goes_on(spot).get(cell, [])) if is_spot(table, spot) else []


def can_end(table, spot):
    """Returns True if the spot can end."""
    return is_spot(table, spot) and Courses(table).can_end(spot)


class Reader:
    """Is given cells one after the other, and has the spots to which they can lead."""

    def __init__(self, table):
        # The table is copied: one that was passed may be changed later on.
        self._courses = Courses(Table(table.signs, table.modes, table.rules))
        self._spots = [FIRST_SPOT]

    def step(self, cell):
        """Gives it a cell; returns the number of its spots then."""
        self._spots = self._courses.further_spots(self._spots, cell)
        return len(self._spots)

    def spots(self):
        """Returns the ascending list of its spots."""
        return list(self._spots)

    def is_done(self):
        """Returns True if one of its spots can end."""
        return any([self._courses.can_end(spot) for spot in self._spots])


def columns_of(courses, row):
    """Returns the lists of the spots of a reader behind 0, 1, 2, .. cells of the row, as far as it has any."""
    columns = [[FIRST_SPOT]]
    for cell in row:
        spots = courses.further_spots(columns[-1], cell)
        if not spots:
            break
        columns.append(spots)
    return columns


def texts_from(courses, spot, cell, behind, most):
    """Returns the ascending list of the least texts, as many as told, that are added from a spot on, first by a cell.

    `behind` has the lists of those that are added from the spots behind the cell on.
    """
    lists = []
    for further in courses.goes_on(spot).get(cell, []):
        if further in behind:
            text = added_text(courses.table, further)
            lists.append([text + rest for rest in behind[further]] if text else behind[further])
    # The same text ahead of all keeps them in order, and the least ones the least: so what is cut off is not missed.
    if len(lists) == 1:
        return lists[0]
    return sorted({text for texts in lists for text in texts})[:most]


def texts_ahead(courses, spots, cell, behind, most):
    """Returns a dict from those of the spots that can come to an end by way of the cell to their lists of texts."""
    known = {}
    for spot in spots:
        bearing = courses.bearing(spot)
        if bearing not in known:
            known[bearing] = texts_from(courses, spot, cell, behind, most)
    lists = {spot: known[courses.bearing(spot)] for spot in spots}
    return {spot: texts for spot, texts in lists.items() if texts}


def least_texts(table, row, most, limit):
    """Returns the ascending list of the least texts of a row, as many as told.

    Raises TooLarge if more than `limit` of them are met at a spot: all of these lead to different texts of the row.
    """
    courses = Courses(table)
    columns = columns_of(courses, row)
    if len(columns) <= len(row):
        return []
    texts = {spot: [""] for spot in columns[-1] if courses.can_end(spot)}
    for at in range(len(row) - 1, -1, -1):
        texts = texts_ahead(courses, columns[at], row[at], texts, most)
        if any([len(found) > limit for found in texts.values()]):
            raise TooLarge("texts")
    return texts.get(FIRST_SPOT, [])


def texts_of(table, row):
    """Returns the ascending list of the texts of a row, each once."""
    return least_texts(table, row, MOST_TEXTS + 1, MOST_TEXTS)


def two_least_texts(table, row):
    """Returns the list of the two least texts of a row, however many it has; of fewer, if it has no two."""
    return least_texts(table, row, 2, 2)


def read_row(table, row):
    """Returns the text of a row that has exactly one."""
    texts = texts_of(table, row)
    if not texts:
        # The reader has spots behind fewer cells than there are columns; a whole row has one column more than cells.
        raise NoText(min(len(columns_of(Courses(table), row)), len(row)))
    if len(texts) > 1:
        raise SeveralTexts(texts[0], texts[1])
    return texts[0]

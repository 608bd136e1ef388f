"""Two tables: whether they write the same, with evidence for the answer; and rules without use."""

from sixdot.errors import TooLarge
from sixdot.reading import FIRST_SPOT, Courses, is_spot, texts_of
from sixdot.table import Table
from sixdot.unique import START, Search, accepts_pairs

MOST_LISTS = 4000

# The pair of lists of spots with which all cross papers begin.
FIRST_LISTS = (((-1, 0),), ((-1, 0),))
NO_LISTS = ((), ())


def agree(first, second, row):
    """Returns True if the tables agree on the row."""
    texts = texts_of(first, row)
    return texts == texts_of(second, row) and len(texts) <= 1


class Lists:
    """The pairs of lists of spots of two tables, and how they go on."""

    def __init__(self, first, second):
        self.first = first
        self.second = second
        self.known_first = {}
        self.known_second = {}

    def parts(self, pair):
        """Returns True if one of the lists has a spot that can end, and the other one has none."""
        ends = any([self.first.can_end(spot) for spot in pair[0]])
        return ends != any([self.second.can_end(spot) for spot in pair[1]])

    def pairs_behind(self, pair):
        """Returns a dict from cells to the pairs to which one goes on by them, but for those that are both empty."""
        if pair[0] not in self.known_first:
            self.known_first[pair[0]] = self.first.all_further(pair[0])
        if pair[1] not in self.known_second:
            self.known_second[pair[1]] = self.second.all_further(pair[1])
        further = self.known_first[pair[0]]
        others = self.known_second[pair[1]]
        return {cell: (further.get(cell, ()), others.get(cell, ())) for cell in list(further) + list(others)}


class Comparison:
    """What is met from the beginning on: pairs of lists, and crossed pairs with leads."""

    def __init__(self, first, second):
        courses = Courses(first)
        others = Courses(second)
        self.lists = Lists(courses, others)
        self.search = Search(courses, others)
        self.met = {FIRST_LISTS: True}

    def keep(self, pair):
        """Keeps a pair of lists, and returns it; returns the pair of empty ones if it is not new."""
        if pair == NO_LISTS or pair in self.met:
            return NO_LISTS
        if len(self.met) == MOST_LISTS:
            raise TooLarge("pairs")
        self.met[pair] = True
        return pair

    def longer(self, row, pair, tuples):
        """Follows what was first met behind a row by all cells, in ascending order.

        Returns a pair: the first row with a cell more on which it shows that the tables do not agree, or None; and the
        list of tuples of such a row and what it is the first to meet, a pair of lists and tuples (first, second, lead).
        """
        rows = []
        pairs = self.lists.pairs_behind(pair)
        found = self.search.further(tuples)
        for cell in sorted(set(list(pairs) + list(found))):
            further = pairs.get(cell, NO_LISTS)
            if self.lists.parts(further) or self.search.parts(found.get(cell, [])):
                return row + [cell], rows
            fresh = (self.keep(further), self.search.keep(found.get(cell, [])))
            if fresh != (NO_LISTS, []):
                rows.append((row + [cell], fresh[0], fresh[1]))
        return None, rows

    def apart(self):
        """Returns the least of the shortest rows on which the tables do not agree, or None if there is none."""
        rows = [([], FIRST_LISTS, [START])]
        while rows:
            longer = []
            for row, pair, tuples in rows:
                found, further = self.longer(row, pair, tuples)
                if found is not None:
                    return found
                longer.extend(further)
            rows = longer
        return None

    def paper(self):
        """Returns what was met as a cross paper."""
        kept, hopeless = self.search.paper()
        return list(self.met), kept, hopeless


def compare(first, second):
    """Returns ("same", paper), or ("apart", row, texts, other_texts) with the least row on which they do not agree."""
    comparison = Comparison(first, second)
    row = comparison.apart()
    if row is not None:
        return "apart", row, texts_of(first, row), texts_of(second, row)
    return "same", comparison.paper()


def is_list(table, spots):
    """Returns True if a tuple is an ascending one of spots of the table."""
    return all([is_spot(table, spot) for spot in spots]) and all([one < other for one, other in zip(spots, spots[1:])])


def accepts_lists(first, second, pairs):
    """Returns True if a list of pairs of tuples of spots is accepted as that of a cross paper."""
    if not all([is_list(first, spots) and is_list(second, others) for spots, others in pairs]):
        return False
    lists = Lists(Courses(first), Courses(second))
    told = {pair: True for pair in pairs}
    if FIRST_LISTS not in told or any([lists.parts(pair) for pair in told]):
        return False
    for pair in told:
        if any([further not in told for further in lists.pairs_behind(pair).values()]):
            return False
    return True


def accepts_cross_paper(first, second, paper):
    """Returns True if the cross paper is accepted."""
    pairs, kept, hopeless = paper
    return accepts_lists(first, second, pairs) and accepts_pairs(first, second, kept, hopeless)


def reached_from(spots, ways):
    """Returns a dict of the spots of a list and all to which ways lead from them; ways has lists of next spots."""
    found = {spot: True for spot in spots}
    waiting = list(spots)
    while waiting:
        spot = waiting.pop()
        for further in ways[spot]:
            if further not in found:
                found[further] = True
                waiting.append(further)
    return found


def useless_rules(table):
    """Returns the ascending list of the numbers of the useless rules."""
    courses = Courses(table)
    spots = courses.all_spots()
    ways = {spot: [further for found in courses.goes_on(spot).values() for further in found] for spot in spots}
    begun = reached_from([FIRST_SPOT], ways)
    ended = reached_from([spot for spot in spots if courses.can_end(spot)], courses.spots_before())
    return [number for number in range(len(table.rules)) if (number, 1) not in begun or (number, 1) not in ended]


def without_rules(table, numbers):
    """Returns the table without these rules."""
    rules = [rule for number, rule in enumerate(table.rules) if number not in numbers]
    return Table(table.signs, table.modes, rules)

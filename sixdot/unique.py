"""Two courses side by side: whether a table is readable, with evidence for the answer."""

from sixdot.errors import TooLarge
from sixdot.reading import Courses, added_text, is_spot, two_least_texts

MOST_TUPLES = 4000

# The lead of two equal texts, and the tuple with which all papers begin.
EQUAL = (0, "")
START = ((-1, 0), (-1, 0), (0, ""))


def is_lead(lead):
    """Returns True if a tuple of an integer and a string is a lead."""
    side, part = lead
    return side == 0 or (side == 1 and part != "")


def next_lead(lead, first, second):
    """Returns the lead behind these further texts of the two sides; None if it breaks, or is None already."""
    if lead is None:
        return None
    side, part = lead
    one = part + first if side == 0 else first
    other = part + second if side == 1 else second
    if one.startswith(other):
        return (0, one[len(other):])
    if other.startswith(one):
        return (1, other[len(one):])
    return None


class Pairs:
    """The pairs of a spot of one table and a spot of another one, or of the same one, and how they go on.

    A set of pairs is kept as a dict from spots of the first table to integers, in which the binary digit of the value
    2 ** k is 1 if the pair with the spot number k of the second table is in the set. So the pairs of a spot with many
    others are followed at once: tables may have a hundred thousand pairs, and millions of ways from one to the next.
    """

    def __init__(self, first, second):
        self.first = first
        self.second = second
        self.others = second.all_spots()
        self.digits = {spot: 1 << at for at, spot in enumerate(self.others)}
        self.groups = {}

    def can_end(self, pair):
        """Returns True if the pair can end."""
        return self.first.can_end(pair[0]) and self.second.can_end(pair[1])

    def bearing(self, pair):
        """Returns what tells how a pair goes on: two pairs with the same bearing do so alike."""
        return (self.first.bearing(pair[0]), self.second.bearing(pair[1]))

    def groups_behind(self, other):
        """Returns a dict from cells to lists of pairs (text, integer): the spots of the second table to which one goes
        on by the cell, those with which the same text is added taken together."""
        bearing = self.second.bearing(other)
        if bearing not in self.groups:
            self.groups[bearing] = {}
            for cell, spots in self.second.goes_on(other).items():
                digits = {}
                for spot in spots:
                    text = added_text(self.second.table, spot)
                    digits[text] = digits.get(text, 0) | self.digits[spot]
                self.groups[bearing][cell] = list(digits.items())
        return self.groups[bearing]

    def ways_behind(self, pair, lead):
        """Returns a list of tuples (cell, first spot, lead, integer): all to which a pair with a lead goes on, with
        the second spots taken together with which the same text is added; in ascending order of the cell."""
        ways = self.first.goes_on(pair[0])
        groups = self.groups_behind(pair[1])
        found = []
        for cell in sorted(ways):
            for first in ways[cell]:
                text = added_text(self.first.table, first)
                for other_text, digits in groups.get(cell, []):
                    found.append((cell, first, next_lead(lead, text, other_text), digits))
        return found

    def set_of(self, pairs):
        """Returns the set of the pairs of a list."""
        found = {}
        for first, second in pairs:
            found[first] = found.get(first, 0) | self.digits[second]
        return found

    def digits_of(self, others):
        """Returns the integer for different spots of the second table."""
        return sum([self.digits[spot] for spot in others])

    def others_in(self, digits):
        """Returns the ascending list of the spots of the second table that an integer stands for."""
        spots = []
        while digits:
            at = (digits & -digits).bit_length() - 1
            spots.append(self.others[at])
            digits = digits & (digits - 1)
        return spots

    def list_of(self, pairs):
        """Returns the ascending list of the pairs in the set."""
        return [(first, second) for first in sorted(pairs) for second in self.others_in(pairs[first])]

    def sets_behind(self, first, digits):
        """Returns a list of pairs (spot, integer): all pairs to which those of a spot with others go on."""
        reached = {}
        for other in self.others_in(digits):
            for cell, groups in self.groups_behind(other).items():
                for _, behind in groups:
                    reached[cell] = reached.get(cell, 0) | behind
        ways = self.first.goes_on(first)
        return [(further, reached[cell]) for cell in ways if cell in reached for further in ways[cell]]

    def is_lost(self, pairs):
        """Returns True if no pair in the set can end, and each one to which one of them goes on is in the set."""
        if any([self.can_end(pair) for pair in self.list_of(pairs)]):
            return False
        for first in pairs:
            for further, digits in self.sets_behind(first, pairs[first]):
                if pairs.get(further, 0) | digits != pairs.get(further, 0):
                    return False
        return True

    def all_behind(self, pairs):
        """Returns the set of the pairs in a set and all those to which they go on by some cells."""
        found = {first: pairs[first] for first in pairs}
        waiting = list(pairs)
        while waiting:
            first = waiting.pop()
            for further, digits in self.sets_behind(first, found[first]):
                if found.get(further, 0) | digits != found.get(further, 0):
                    found[further] = found.get(further, 0) | digits
                    waiting.append(further)
        return found

    def ending_pairs(self):
        """Returns the set of the pairs that can end; all spots of the first table have an integer in it."""
        digits = self.digits_of([spot for spot in self.others if self.second.can_end(spot)])
        return {spot: digits if self.first.can_end(spot) else 0 for spot in self.first.all_spots()}

    def hopeful_pairs(self):
        """Returns the set of the pairs that are hopeful: those that can end, and from them on backwards."""
        ahead = self.first.spots_before()
        others_ahead = self.second.spots_before()
        digits_ahead = {spot: self.digits_of(others_ahead[spot]) for spot in self.others}
        found = self.ending_pairs()
        waiting = [spot for spot in ahead if found[spot]]
        while waiting:
            first = waiting.pop()
            cell = self.first.cell_to(first)
            digits = 0
            for other in self.others_in(found[first]):
                if self.second.cell_to(other) == cell:
                    digits = digits | digits_ahead[other]
            for spot in ahead[first]:
                if found[spot] | digits != found[spot]:
                    found[spot] = found[spot] | digits
                    waiting.append(spot)
        return found


def is_pair(table, pair):
    """Returns True if a tuple of two pairs of integers is a pair of spots of the table."""
    return is_spot(table, pair[0]) and is_spot(table, pair[1])


def next_pairs(table, pair, lead):
    """Returns the list of the tuples (cell, pair, lead) to which a pair with a lead goes on, ascending."""
    if not is_pair(table, pair):
        return []
    courses = Courses(table)
    pairs = Pairs(courses, courses)
    found = []
    for cell, first, further, digits in pairs.ways_behind(pair, lead):
        found.extend([(cell, (first, second), further) for second in pairs.others_in(digits)])
    # No two of them have both the same cell and the same pair: so leads, which may be None, are not compared.
    return sorted(found)


def is_hopeful(table, pair):
    """Returns True if the pair goes on to one that can end, by some cells or by none."""
    if not is_pair(table, pair):
        return False
    courses = Courses(table)
    pairs = Pairs(courses, courses)
    return pairs.hopeful_pairs()[pair[0]] & pairs.digits[pair[1]] != 0


def are_of(first, second, kept, hopeless):
    """Returns True if all pairs are of spots of the first and the second table, and all leads are leads."""
    pairs = [(one, other) for one, other, _ in kept] + hopeless
    return (
        all([is_spot(first, one) and is_spot(second, other) for one, other in pairs])
        and all([is_lead(lead) for _, _, lead in kept])
    )


def are_kept(pairs, kept, lost):
    """Returns True if each pair to which a kept one goes on is in the set `lost`, or kept with the due lead."""
    digits_kept = {}
    for first, second, lead in kept:
        digits_kept[first, lead] = digits_kept.get((first, lead), 0) | pairs.digits[second]
    followed = {}
    for first, second, lead in kept:
        key = (pairs.bearing((first, second)), lead)
        if key not in followed:
            followed[key] = True
            for _, further, due, digits in pairs.ways_behind((first, second), lead):
                # A lead that breaks is None, and with that nothing is kept.
                held = lost.get(further, 0) | digits_kept.get((further, due), 0)
                if held | digits != held:
                    return False
    return True


def accepts_pairs(first, second, kept, hopeless):
    """Returns True if lists of kept and of hopeless pairs of spots of two tables are accepted as those of a paper."""
    if not are_of(first, second, kept, hopeless):
        return False
    pairs = Pairs(Courses(first), Courses(second))
    told = {one: True for one in kept}
    lost = pairs.set_of(hopeless)
    return (
        START in told
        and all([lead == EQUAL for one, other, lead in told if pairs.can_end((one, other))])
        and are_kept(pairs, told, lost)
        and pairs.is_lost(lost)
    )


def accepts_paper(table, paper):
    """Returns True if the paper is accepted."""
    kept, hopeless = paper
    return accepts_pairs(table, table, kept, hopeless)


class Search:
    """What is met from the beginning on: tuples (first, second, lead), and the pairs beside them without hope.

    A lead that broke is None from there on: such a tuple is followed further, as it can lead to two texts.
    """

    def __init__(self, first, second):
        self.pairs = Pairs(first, second)
        self.hopeful = self.pairs.hopeful_pairs()
        self.ending = self.pairs.ending_pairs()
        self.hopeless = {}
        self.kept = [START]
        # From pairs of a first spot and a lead to the second spots with which they are kept.
        self.digits_kept = {}
        self.followed = {}

    def further(self, tuples):
        """Returns a dict from cells to lists of tuples (first spot, lead, integer): the hopeful tuples to which these
        go on, but for those to which others like these went on before."""
        found = {}
        for first, second, lead in tuples:
            key = (self.pairs.bearing((first, second)), lead)
            if key not in self.followed:
                self.followed[key] = True
                for cell, spot, due, digits in self.pairs.ways_behind((first, second), lead):
                    hopeful = digits & self.hopeful[spot]
                    if hopeful:
                        found.setdefault(cell, []).append((spot, due, hopeful))
                    if hopeful != digits:
                        self.hopeless[spot] = self.hopeless.get(spot, 0) | (digits - hopeful)
        return found

    def parts(self, found):
        """Returns True if one of the tuples that were found can end with two different texts."""
        return any([lead != EQUAL and digits & self.ending[first] != 0 for first, lead, digits in found])

    def keep(self, found):
        """Keeps those of the tuples that were found that are new, and returns the list of them."""
        fresh = []
        for first, lead, digits in found:
            before = self.digits_kept.get((first, lead), 0)
            self.digits_kept[first, lead] = before | digits
            for second in self.pairs.others_in((before | digits) - before):
                if len(self.kept) == MOST_TUPLES:
                    raise TooLarge("pairs")
                self.kept.append((first, second, lead))
                fresh.append((first, second, lead))
        return fresh

    def paper(self):
        """Returns what was met as a paper."""
        return self.kept, self.pairs.list_of(self.pairs.all_behind(self.hopeless))


def decide(table):
    """Returns ("readable", paper), or ("same", row, first, second) with the least row that has two texts."""
    courses = Courses(table)
    search = Search(courses, courses)
    rows = [([], [START])]
    # The rows of a length are taken in ascending order, each with the tuples that it is the first one to meet: so the
    # first row that is found to have two texts is the least one of the shortest.
    while rows:
        longer = []
        for row, tuples in rows:
            found = search.further(tuples)
            for cell in sorted(found):
                if search.parts(found[cell]):
                    first, second = two_least_texts(table, row + [cell])
                    return "same", row + [cell], first, second
                fresh = search.keep(found[cell])
                if fresh:
                    longer.append((row + [cell], fresh))
        rows = longer
    return "readable", search.paper()

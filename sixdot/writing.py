"""The ways to write a text by the rules of a table, its writings, and the best ones."""

from sixdot.errors import TooLarge
from sixdot.table import BEGINNING, END, has_parts

MOST_WRITINGS = 1000


def fits(rule, text, place):
    """Returns True if the rule fits the text at the place."""
    end = place + len(rule.text)
    if place < 0 or text[place:end] != rule.text or not has_parts(rule):
        return False
    before = text[place - 1] if place > 0 else BEGINNING
    after = text[end] if end < len(text) else END
    return (rule.ahead is None or before in rule.ahead) and (rule.behind is None or after in rule.behind)


def fitting(table, text, place, mode):
    """Returns the ascending list of the numbers of the rules of the mode that fit at the place."""
    return [at for at, rule in enumerate(table.rules) if rule.mode == mode and fits(rule, text, place)]


def is_way(table, text, way):
    """Returns True if the list of integers is a way to write the text."""
    place = 0
    mode = 0
    for number in way:
        if not 0 <= number < len(table.rules):
            return False
        rule = table.rules[number]
        if rule.mode != mode or not fits(rule, text, place):
            return False
        place += len(rule.text)
        mode = rule.to
    return place == len(text)


def cells_of_way(table, way):
    """Returns the list of the cells of the rules of a way."""
    return [cell for number in way for cell in table.rules[number].cells]


def modes_of(table):
    """Returns the ascending list of the modes in which a rule can be due, also of those beyond the table's."""
    return sorted(set(list(range(table.modes)) + [0] + [rule.to for rule in table.rules]))


def best_choice(table, text, place, mode, best):
    """Returns the least tuple (number of cells, cells, rule) to write the text from the place on, or None."""
    found = []
    for number in fitting(table, text, place, mode):
        rule = table.rules[number]
        rest = best[place + len(rule.text), rule.to]
        if rest is not None:
            row = rule.cells + rest[1]
            found.append((len(row), row, number))
    return min(found, default=None)


def best_choices(table, text):
    """Returns a dict with the best choice at each pair of a place and a mode."""
    modes = modes_of(table)
    best = {(len(text), mode): (0, [], None) for mode in modes}
    for place in range(len(text) - 1, -1, -1):
        for mode in modes:
            best[place, mode] = best_choice(table, text, place, mode, best)
    return best


def best_writing(table, text):
    """Returns a pair of the best writing and the best way, or None if the text has no writing."""
    best = best_choices(table, text)
    if best[0, 0] is None:
        return None
    way = []
    place = 0
    mode = 0
    # What is left of the best writing at each place is the best one from there on, or a lesser one would be had;
    # and the choices have the least rule among equal rows. So they lead along the least way.
    while place < len(text):
        rule = table.rules[best[place, mode][2]]
        way.append(best[place, mode][2])
        place += len(rule.text)
        mode = rule.to
    return best[0, 0][1], way


def ended_places(table, text):
    """Returns a dict of the pairs of a place and a mode from which the text can be written to its end."""
    modes = modes_of(table)
    ended = {(len(text), mode): True for mode in modes}
    for place in range(len(text) - 1, -1, -1):
        for mode in modes:
            rules = [table.rules[number] for number in fitting(table, text, place, mode)]
            if any([(place + len(rule.text), rule.to) in ended for rule in rules]):
                ended[place, mode] = True
    return ended


class Branches:
    """The branches by which the cells of all writings of a text go on.

    A stand is a tuple (rest, place, mode): the cells that are left of a rule, the place behind its text and the mode
    to which it leads. Ways with the same cells share a branch, the ascending tuple of their stands; so each writing
    is met once, however many ways have it.
    """

    def __init__(self, table, text):
        self.table = table
        self.text = text
        self.ended = ended_places(table, text)
        self.known = {}

    def beginning(self):
        """Returns the branch ahead of all cells."""
        return (((), 0, 0),)

    def can_end(self, branch):
        """Returns True if the cells so far are a writing."""
        return any([rest == () and place == len(self.text) for rest, place, _ in branch])

    def next_stands(self, stand):
        """Returns the list of the pairs of a cell and the stand to which one goes on by it and can reach the end."""
        rest, place, mode = stand
        if rest != ():
            return [(rest[0], (rest[1:], place, mode))]
        found = []
        for number in fitting(self.table, self.text, place, mode):
            rule = self.table.rules[number]
            behind = place + len(rule.text)
            if (behind, rule.to) in self.ended:
                found.append((rule.cells[0], (tuple(rule.cells[1:]), behind, rule.to)))
        return found

    def next_branches(self, branch):
        """Returns the list of the pairs of a cell and the branch behind it, the greatest cell first."""
        if branch not in self.known:
            stands = {}
            for stand in branch:
                for cell, further in self.next_stands(stand):
                    stands.setdefault(cell, {})[further] = True
            cells = sorted(stands, reverse=True)
            self.known[branch] = [(cell, tuple(sorted(stands[cell]))) for cell in cells]
        return self.known[branch]


def writings(table, text):
    """Returns the ascending list of the writings, each once."""
    branches = Branches(table, text)
    found = []
    row = []
    waiting = [(0, [], branches.beginning())]
    while waiting:
        length, cells, branch = waiting.pop()
        del row[length:]
        row.extend(cells)
        if branches.can_end(branch):
            if len(found) == MOST_WRITINGS:
                raise TooLarge("writings")
            found.append(list(row))
        # The branch of the least cell lies on top: so the writings are met in ascending order.
        for cell, further in branches.next_branches(branch):
            waiting.append((len(row), [cell], further))
    return found

"""Rows of cells, broken into lines at least cost, and prices that show that no lines cost less."""

from sixdot.errors import Unreadable
from sixdot.shape import room_behind

JOINED_COST = 50

# The ways in which a line begins: their places in a pair of prices. A first line has the place of one with `on`.
ON = 0
JOINED = 1


def mark_of(shape, way):
    """Returns the mark with which a further line begins in a way."""
    return shape.marks.on if way == ON else shape.marks.joined


def ways_to_begin(row, cell):
    """Returns the list of the ways in which a line can begin at a cell of the row."""
    if cell == 0:
        return [ON]
    if cell > 1 and row[cell - 1] == 0:
        return [ON, JOINED]
    return [JOINED]


def begin_length(shape, mark, cell):
    """Returns how many cells stand ahead of those of the row in a line that begins at a cell, in any way."""
    # `on` and `joined` have equally many cells.
    return len(mark if cell == 0 else shape.marks.on)


def line_ends(shape, mark, row, cell):
    """Returns the list of the cells ahead of which a line can end that begins at a cell."""
    room = room_behind(shape, begin_length(shape, mark, cell))
    return list(range(cell + 1, min(cell + room, len(row)) + 1))


def following(row, end):
    """Returns the list of the pairs (cell, way) with which a line can begin behind one that ends ahead of a cell."""
    if end + 1 < len(row) and row[end] == 0:
        return [(end + 1, ON), (end, JOINED)]
    return [(end, JOINED)] if end < len(row) else []


def cost_behind(shape, mark, cell, end, way):
    """Returns the cost of a line, from a cell to ahead of another one, and of what follows it in a way beginning."""
    gap = shape.width - begin_length(shape, mark, cell) - (end - cell)
    return gap ** 2 + (JOINED_COST if way == JOINED else 0)


def best_lines(shape, mark, row):
    """Returns a list with a tuple (cost, end, mark, next) for each cell, of the best lines from there on.

    It has their cost, the cell ahead of which the first one ends, and with which mark and cell the next one begins.
    """
    best = [(0, 0, (), 0) for _ in row]
    for cell in range(len(row) - 1, -1, -1):
        found = []
        for end in line_ends(shape, mark, row, cell):
            if end == len(row):
                found.append((0, end, (), end))
            for further, way in following(row, end):
                cost = cost_behind(shape, mark, cell, end, way) + best[further][0]
                found.append((cost, end, mark_of(shape, way), further))
        # A shorter line is the beginning of a longer one, and so the lesser one; if the lines are equal, those that
        # follow differ in their marks, none of which is the beginning of the other: so this is the least list.
        best[cell] = min(found)
    return best


def break_row(shape, mark, row):
    """Returns the list of the lines of a row of a block with this mark, tuples of cells."""
    best = best_lines(shape, mark, row)
    lines = []
    begin = mark
    cell = 0
    while cell < len(row):
        _, end, next_mark, further = best[cell]
        lines.append(begin + tuple(row[cell:end]))
        begin = next_mark
        cell = further
    return lines


def unbroken(shape, lines, mark):
    """Returns the list of the cells of the row that was broken into these lines."""
    row = []
    for number, line in enumerate(lines):
        begins = [mark] if number == 0 else [shape.marks.on, shape.marks.joined]
        found = [begin for begin in begins if line[:len(begin)] == begin and len(line) > len(begin)]
        if not found:
            raise Unreadable((number,), "line")
        if number > 0 and found[0] == shape.marks.on:
            row.append(0)
        row.extend(line[len(found[0]):])
    return row


def is_broken(shape, mark, row, lines):
    """Returns True if the lines are the row, broken into lines."""
    if any([len(line) > shape.width for line in lines]):
        return False
    try:
        return unbroken(shape, lines, mark) == row
    except Unreadable:
        return False


def cost_of(shape, lines):
    """Returns the cost of a list of lines."""
    joined = shape.marks.joined
    gaps = sum([(shape.width - len(line)) ** 2 for line in lines[:-1]])
    return gaps + sum([JOINED_COST for line in lines if line[:len(joined)] == joined])


def make_line_prices(shape, mark, row):
    """Returns prices for the row that are accepted."""
    # Lines that begin with `on` and with `joined` at the same cell go on alike.
    return [(best[0], best[0]) for best in best_lines(shape, mark, row)]


def price_limit(shape, mark, row, prices, cell):
    """Returns the greatest price that a line that begins at a cell, in any way, can have."""
    found = []
    for end in line_ends(shape, mark, row, cell):
        if end == len(row):
            found.append(0)
        for further, way in following(row, end):
            found.append(cost_behind(shape, mark, cell, end, way) + prices[further][way])
    return min(found)


def accepts_line_prices(shape, mark, row, prices):
    """Returns True if the prices are accepted for the row."""
    if len(prices) != len(row):
        return False
    for cell in range(len(row)):
        limit = price_limit(shape, mark, row, prices, cell)
        if any([prices[cell][way] > limit for way in ways_to_begin(row, cell)]):
            return False
    return True

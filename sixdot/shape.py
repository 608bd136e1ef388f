"""Shapes with their marks, and how numbers, labels and the beginnings of blocks are pressed."""

from sixdot.errors import InvalidShape
from sixdot.table import MOST_CELL, MOST_NUMBERS
from sixdot.words import number_word

LEAST_WIDTH = 8
MOST_WIDTH = 40
LEAST_HEIGHT = 3
MOST_HEIGHT = 30
MOST_SIZE = 50
MOST_MARK_CELLS = 2

# What stands between two numbers of a label: a cell that presses no digit.
LABEL_CELL = 11


class Marks:
    """The rows of cells with which lines begin."""

    def __init__(self, head, par, depths, note, stop, on, joined, number):
        self.head = tuple(head)
        self.par = tuple(par)
        self.depths = [tuple(row) for row in depths]
        self.note = tuple(note)
        self.stop = tuple(stop)
        self.on = tuple(on)
        self.joined = tuple(joined)
        self.number = tuple(number)


class Shape:
    """How wide and high pages are, how many sheets a volume has, and the marks."""

    def __init__(self, width, height, size, marks):
        # The marks are copied: those that were passed may be changed later on.
        copied = copy_of_marks(marks)
        if not are_sizes(width, height, size) or not are_marks(copied):
            raise InvalidShape()
        self.width = width
        self.height = height
        self.size = size
        self.marks = copied


def copy_of_marks(marks):
    """Returns new marks with the same rows."""
    return Marks(
        marks.head, marks.par, marks.depths, marks.note, marks.stop, marks.on, marks.joined, marks.number
    )


def are_sizes(width, height, size):
    """Returns True if a shape may have these numbers."""
    return (
        LEAST_WIDTH <= width <= MOST_WIDTH
        and LEAST_HEIGHT <= height <= MOST_HEIGHT
        and 1 <= size <= MOST_SIZE
    )


def rows_of_marks(marks):
    """Returns the list of all rows of the marks."""
    rows = [marks.head, marks.par, marks.note, marks.stop, marks.on, marks.joined, marks.number]
    return rows + marks.depths


def is_mark(row):
    """Returns True if a row can be a mark by itself."""
    return (
        1 <= len(row) <= MOST_MARK_CELLS and row[0] != 0 and all([0 <= cell <= MOST_CELL for cell in row])
    )


def are_apart(rows):
    """Returns True if none of the rows is the beginning of another one, or equal to it."""
    for at, row in enumerate(rows):
        if any([other[:len(row)] == row for place, other in enumerate(rows) if place != at]):
            return False
    return True


def are_marks(marks):
    """Returns True if a shape may have these marks."""
    rows = rows_of_marks(marks)
    return (
        len(marks.depths) == MOST_NUMBERS["item"]
        and all([is_mark(row) for row in rows])
        and are_apart(rows)
        and len(marks.on) == len(marks.joined)
    )


def figures(number):
    """Returns the row of a number, the list of the cells of its digits."""
    # There is no cell for a minus: a number below 0 is pressed as its digits alone.
    return [int(digit) + 1 for digit in number_word(abs(number))]


def label_row(label):
    """Returns the row of a label, the list of the cells of its numbers and of those between them."""
    row = []
    for at, number in enumerate(label):
        if at > 0:
            row.append(LABEL_CELL)
        row.extend(figures(number))
    return row


def is_label(label):
    """Returns True if a tuple of integers is a label."""
    return len(label) > 0 and all([number >= 0 for number in label]) and label[-1] >= 1


def number_line(shape, label):
    """Returns the number line of a sheet with the label."""
    return shape.marks.number + tuple(label_row(label))


def depth_mark(shape, depth):
    """Returns the mark of an item of a depth."""
    depths = shape.marks.depths
    # A depth beyond those that have marks gets the mark of the nearest one.
    return depths[min(max(depth, 1), len(depths)) - 1]


def room_behind(shape, many):
    """Returns how many cells of a row a line has room for that begins with so many other cells."""
    # Behind the mark of a note with a very great label there may be no room; but no line is without cells of the row.
    return max(shape.width - many, 1)


def block_mark(shape, block):
    """Returns the tuple of the cells with which the first line of a block begins."""
    marks = shape.marks
    kind = block[0]
    if kind == "head":
        return marks.head
    if kind == "par":
        return marks.par
    if kind == "item":
        return depth_mark(shape, block[1])
    if kind == "note":
        return marks.note + tuple(figures(block[1])) + (0,)
    return marks.stop

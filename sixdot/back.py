"""Volumes, read back into books, and their faults."""

from sixdot.errors import Unreadable
from sixdot.reading import MOST_TEXTS, texts_of
from sixdot.shape import figures, is_label, number_line
from sixdot.table import MOST_BLOCKS, MOST_CELL, MOST_NUMBERS, Book, is_text


def line_kinds(shape):
    """Returns the list of the pairs of a mark with which a line of the book can begin and what begins with it."""
    marks = shape.marks
    kinds = [(marks.head, ("head",)), (marks.par, ("par",)), (marks.note, ("note",)), (marks.stop, ("break",))]
    kinds.extend([(mark, ("item", at + 1)) for at, mark in enumerate(marks.depths)])
    return kinds + [(marks.on, ("on",)), (marks.joined, ("joined",))]


def kind_of(shape, line):
    """Returns the pair of the mark of a line and what begins with it, or None if there is none of the marks."""
    for mark, kind in line_kinds(shape):
        if line[:len(mark)] == mark:
            return mark, kind
    return None


def note_label(cells):
    """Returns the number with whose row and a cell 0 the cells begin, if a note can have it as its label, or None."""
    for label in range(1, MOST_NUMBERS["note"] + 1):
        row = tuple(figures(label)) + (0,)
        if cells[:len(row)] == row:
            return label
    return None


def parts_of(shape, line):
    """Returns the pair of what begins with a line that has the form, and the cells of a row that stand in it."""
    mark, kind = kind_of(shape, line)
    cells = line[len(mark):]
    if kind == ("note",):
        label = note_label(cells)
        return ("note", label), cells[len(figures(label)) + 1:]
    return kind, cells


class Form:
    """Looks at sheets, one after the other, for faults of form; knows of the sheets before what these ask for.

    A fault is a pair of the place in what is looked at, and the reason.
    """

    def __init__(self, shape):
        self.shape = shape
        # Less than all labels.
        self.label = ()
        # Whether there is a block to which a line `on` or `joined` can belong.
        self.has_block = False

    def line_reason(self, line, is_last):
        """Returns the reason for which a line of the book is at fault, or None."""
        if any([not 0 <= cell <= MOST_CELL for cell in line]):
            return "cell"
        found = kind_of(self.shape, line)
        if found is None:
            return "mark"
        if len(line) > self.shape.width:
            return "wide"
        mark, kind = found
        if kind == ("break",):
            self.has_block = False
            return None if is_last and line == mark else "stop"
        if kind == ("note",) and note_label(line[len(mark):]) is None:
            return "note"
        if kind in (("on",), ("joined",)) and not self.has_block:
            return "begin"
        self.has_block = True
        _, cells = parts_of(self.shape, line)
        return None if cells else "short"

    def page_fault(self, page):
        """Returns the fault of a page, or None."""
        if not 2 <= len(page) <= self.shape.height:
            return (), "lines"
        last = len(page) - 1
        for number, line in enumerate(page[:last]):
            reason = self.line_reason(line, number == last - 1)
            if reason is not None:
                return (number,), reason
        return None if page[last] == number_line(self.shape, self.label) else ((last,), "number")

    def sheet_fault(self, sheet):
        """Returns the fault of a sheet, or None."""
        label, front, back = sheet
        if not is_label(label) or label <= self.label:
            return (), "label"
        self.label = label
        for side, page in enumerate([front, back]):
            if side == 0 or page:
                fault = self.page_fault(page)
                if fault is not None:
                    return (side,) + fault[0], fault[1]
        return None


def form_fault(shape, volumes):
    """Returns the fault of form of the volumes, a pair (place, reason), or None."""
    if not volumes:
        return (), "empty"
    form = Form(shape)
    for number, volume in enumerate(volumes):
        if not 1 <= len(volume) <= shape.size:
            return (number,), "size"
        for at, sheet in enumerate(volume):
            fault = form.sheet_fault(sheet)
            if fault is not None:
                return (number, at) + fault[0], fault[1]
    return None


def placed_lines(volumes):
    """Returns the list of the pairs of a line of the book and its place."""
    found = []
    for number, volume in enumerate(volumes):
        for at, sheet in enumerate(volume):
            for side, page in enumerate(sheet[1:]):
                found.extend([(line, (number, at, side, place)) for place, line in enumerate(page[:-1])])
    return found


def rows_back(shape, volumes):
    """Returns the list of tuples (begin, row, place) for the blocks of volumes that have the form."""
    fault = form_fault(shape, volumes)
    if fault is not None:
        raise Unreadable(fault[0], fault[1])
    found = []
    for line, place in placed_lines(volumes):
        begin, cells = parts_of(shape, line)
        if begin in (("on",), ("joined",)):
            row = found[-1][1]
            if begin == ("on",):
                row.append(0)
            row.extend(cells)
        else:
            found.append((begin, list(cells), place))
    return found


def blocks_back(shape, table, volumes, most):
    """Returns the list of the blocks, with the least text where a row has several, but no more than told.

    Raises Unreadable for the first fault.
    """
    blocks = []
    for begin, row, place in rows_back(shape, volumes):
        if len(blocks) == MOST_BLOCKS:
            raise Unreadable(place, "blocks")
        if begin == ("break",):
            blocks.append(begin)
        else:
            texts = [text for text in texts_of(table, row) if is_text(text)]
            if not texts:
                raise Unreadable(place, "text")
            if len(texts) > most:
                raise Unreadable(place, "several")
            blocks.append(begin + (texts[0],))
    return blocks


def is_layout(shape, table, volumes):
    """Returns True if the volumes are let by as a layout."""
    try:
        # A row that has several texts is at fault for reading alone, and no row has more than are taken.
        blocks_back(shape, table, volumes, MOST_TEXTS)
    except Unreadable:
        return False
    return True


def read_back(shape, table, volumes):
    """Returns the book that the volumes are a layout of."""
    return Book(blocks_back(shape, table, volumes, 1))

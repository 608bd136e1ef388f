"""Books, laid out: their lines, and the sheets with their pages, bound into volumes."""

from sixdot.lines import break_row
from sixdot.pages import page_ends
from sixdot.places import rows_of
from sixdot.shape import block_mark, number_line


def book_lines(shape, table, book):
    """Returns a list with the list of the lines of each block, with which the book is laid out."""
    found = []
    for block, row in zip(book.blocks, rows_of(table, book)):
        mark = block_mark(shape, block)
        found.append([mark] if block[0] == "break" else break_row(shape, mark, row))
    return found


def sides_of(shape, pages):
    """Returns the list of the sheets for the pages, pairs of the lines of the front and of the back, if it has any."""
    sides = []
    is_back = False
    for page in pages:
        if is_back:
            sides[-1].append(page)
        else:
            sides.append([page])
        # Behind a line `stop` the next page begins a front.
        is_back = not is_back and (not page or page[-1] != shape.marks.stop)
    return sides


def made_sheet(shape, label, sides):
    """Returns the sheet with a label and the lines of the book of its front and of its back, if it has any."""
    last = number_line(shape, label)
    front = tuple(sides[0]) + (last,)
    back = tuple(sides[1]) + (last,) if len(sides) == 2 else ()
    return (label, front, back)


def in_volumes(shape, sheets):
    """Returns the volumes for a list of sheets."""
    return [sheets[at:at + shape.size] for at in range(0, len(sheets), shape.size)]


def bind(shape, pages, labels):
    """Returns the volumes for a list of pages, each a list of lines of the book, with these labels of their sheets."""
    return in_volumes(shape, [made_sheet(shape, label, sides) for label, sides in zip(labels, sides_of(shape, pages))])


def sheets_needed(shape, pages):
    """Returns the number of sheets for the pages."""
    return len(sides_of(shape, pages))


def lay_out(shape, table, book):
    """Returns the volumes in which the book is laid out at least cost."""
    found = book_lines(shape, table, book)
    lines = [line for block in found for line in block]
    ends = page_ends(shape.height, book.blocks, [len(block) for block in found])
    pages = [lines[begin:end] for begin, end in zip([0] + ends[:-1], ends)]
    return bind(shape, pages, [(number + 1,) for number in range(sheets_needed(shape, pages))])

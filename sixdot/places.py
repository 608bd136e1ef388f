"""Places of a book, and where its lines and sheets lead from them."""

from sixdot.errors import NoWriting
from sixdot.shape import block_mark, is_label, number_line, room_behind
from sixdot.writing import best_writing

# How a line begins at a place. These words have the order of the places that have them.
FIRST = "first"
JOINED = "joined"
ON = "on"


def rows_of(table, book):
    """Returns the list of the best writings of the blocks, lists of cells, an empty one for a break."""
    rows = []
    for number, block in enumerate(book.blocks):
        if block[0] == "break":
            rows.append([])
        else:
            best = best_writing(table, block[-1])
            if best is None:
                raise NoWriting(number)
            rows.append(best[0])
    return rows


def last_place(book):
    """Returns the place behind the last block."""
    return (len(book.blocks), 0, FIRST)


def places_at(row, block, cell):
    """Returns the ascending list of the places to which a line of the block leads that ends ahead of a cell."""
    if cell == len(row):
        return [(block + 1, 0, FIRST)]
    if row[cell] == 0 and cell + 1 < len(row):
        return [(block, cell, JOINED), (block, cell + 1, ON)]
    return [(block, cell, JOINED)]


def places(rows, book):
    """Returns the ascending list of the places, the last one too."""
    found = [(0, 0, FIRST)]
    for block, row in enumerate(rows):
        # The end of a break's row is its beginning.
        for cell in range(min(1, len(row)), len(row) + 1):
            found.extend(places_at(row, block, cell))
    return sorted(found)


def beginning(shape, book, place):
    """Returns the tuple of the cells with which a line begins at a place."""
    block, _, way = place
    if way == ON:
        return shape.marks.on
    if way == JOINED:
        return shape.marks.joined
    return block_mark(shape, book.blocks[block])


def has_line(rows, place):
    """Returns True if a line can begin at a place: not at the last one, or beyond the blocks or the cells of one."""
    block, cell, _ = place
    return 0 <= block < len(rows) and (cell == 0 or 0 < cell < len(rows[block]))


def line_ends(shape, book, rows, place, line):
    """Returns the ascending list of the places to which the line leads from the place."""
    if not has_line(rows, place) or len(line) > shape.width:
        return []
    block, cell, _ = place
    row = rows[block]
    begin = beginning(shape, book, place)
    end = cell + len(line) - len(begin)
    # No line is its beginning alone, but for that of a break, which has no cells.
    if line != begin + tuple(row[cell:end]) or (end == cell and row):
        return []
    return places_at(row, block, end)


def ends_of_lines(shape, book, rows, begins, lines):
    """Returns the ascending list of the places to which the lines of the book of a page lead from some places."""
    if shape.marks.stop in lines[:-1]:
        return []
    found = begins
    for line in lines:
        found = sorted({end for begin in found for end in line_ends(shape, book, rows, begin, line)})
    return found


def is_page(shape, label, page):
    """Returns True if a page has as many lines as may be, and the number line of a sheet with the label at its end."""
    return 2 <= len(page) <= shape.height and page[-1] == number_line(shape, label)


def has_pages(shape, sheet):
    """Returns True if the front of a sheet, which is not empty, and its back are pages."""
    label, front, back = sheet
    return is_label(label) and all([is_page(shape, label, page) for page in ([front, back] if back else [front])])


def sheet_ends(shape, book, rows, place, sheet):
    """Returns the ascending list of the places to which the sheet leads from the place, if it can stay there."""
    if not has_pages(shape, sheet):
        return []
    _, front, back = sheet
    found = ends_of_lines(shape, book, rows, [place], front[:-1])
    return ends_of_lines(shape, book, rows, found, back[:-1])


def leads_to(place, end):
    """Returns True if a place is another one, or if lines lead from it to that one."""
    block, cell, way = end
    # Between these and the place at which the next line begins with `on` no line has a cell.
    if way == ON and place[0] == block and place[1] >= cell - 1:
        return place == end
    return place <= end


def cells_ahead(shape, book, rows, place):
    """Returns the list of the cells ahead of which a line can end that begins at the place, which is not the last."""
    block, cell, _ = place
    room = room_behind(shape, len(beginning(shape, book, place)))
    cells = len(rows[block])
    return list(range(min(cell + 1, cells), min(cell + room, cells) + 1))


def farthest(shape, book, rows, place, end):
    """Returns the last place to which a line can lead from the place and that is the end, or leads to it; or None."""
    if not has_line(rows, place):
        return None
    block = place[0]
    cells = cells_ahead(shape, book, rows, place)
    found = [further for cell in cells for further in places_at(rows[block], block, cell)]
    return max([further for further in found if leads_to(further, end)], default=None)

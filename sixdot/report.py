"""Rows, labels and sheets, written as lines; and rows, read from words."""

from sixdot.words import cell_of_word, point_word
from sixdot.writer import write_cell


def row_line(row):
    """Returns a row as a line."""
    return " ".join([write_cell(cell) for cell in row])


def label_word(label):
    """Returns a label, or a place, as a word."""
    return point_word(label)


def sheet_lines(sheet):
    """Returns the lines of a sheet."""
    label, front, back = sheet
    lines = [f"label {label_word(label)}", "front"]
    lines.extend([row_line(row) for row in front])
    if back:
        lines.append("back")
        lines.extend([row_line(row) for row in back])
    return lines


def read_row(words):
    """Returns the row of the cells that the words of a list write, or None if one of them is no written cell."""
    row = [cell_of_word(word) for word in words]
    return None if None in row else row

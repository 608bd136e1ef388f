"""The texts of tables and the markups of books, written."""

from sixdot.table import dots_of
from sixdot.words import number_word


def write_cell(cell):
    """Returns the written cell."""
    return "".join([str(dot) for dot in dots_of(cell)]) or "-"


def write_quoted(text):
    """Returns the quoted string."""
    # The backslashes go first: those ahead of the quotation marks are not to be doubled.
    inside = text.replace("\\", "\\\\").replace('"', '\\"')
    return f'"{inside}"'


def write_rule(rule):
    """Returns the line of a rule."""
    words = ["rule", number_word(rule.mode), write_quoted(rule.text), "="]
    words.extend([write_cell(cell) for cell in rule.cells])
    words.extend(["to", number_word(rule.to)])
    if rule.ahead is not None:
        words.extend(["ahead", write_quoted(rule.ahead)])
    if rule.behind is not None:
        words.extend(["behind", write_quoted(rule.behind)])
    return " ".join(words)


def ended(lines):
    """Returns the text of the lines, each with a newline at its end."""
    return "".join([line + "\n" for line in lines])


def write_table(table):
    """Returns the text of a table."""
    first = [f"signs {write_quoted(table.signs)}", f"modes {number_word(table.modes)}"]
    return ended(first + [write_rule(rule) for rule in table.rules])


def write_block(block):
    """Returns the line of a block."""
    return " ".join([part if isinstance(part, str) else number_word(part) for part in block])


def write_book(book):
    """Returns the markup of a book."""
    return ended([write_block(block) for block in book.blocks])

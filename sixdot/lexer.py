"""The pieces of a line of a table's text."""

from sixdot.errors import TextError
from sixdot.table import is_sign

QUOTE = '"'
BACKSLASH = "\\"


def check_signs(line, number):
    """Raises TextError at the first character of a line that is no sign."""
    for at, character in enumerate(line):
        if not is_sign(character):
            raise TextError(number, at + 1, "sign")


def pieces(line, number):
    """Returns the list of the pieces of a line, tuples (kind, text, column)."""
    check_signs(line, number)
    found = []
    at = 0
    while at < len(line):
        if line[at] == " ":
            at += 1
        elif line[at] == QUOTE:
            text, end = quoted_from(line, number, at)
            found.append(("quoted", text, at + 1))
            at = end
        else:
            end = end_of_plain(line, at)
            found.append(("plain", line[at:end], at + 1))
            at = end
    return found


def end_of_plain(line, start):
    """Returns the index behind the plain piece that begins at an index."""
    end = start
    while end < len(line) and line[end] not in (" ", QUOTE):
        end += 1
    return end


def quoted_from(line, number, start):
    """Returns what the quoted string is whose first quotation mark stands at an index, and the index behind it."""
    signs = []
    at = start + 1
    while at < len(line) and line[at] != QUOTE:
        # A backslash that ends the line is no fault of its own: the string lacks its end.
        if line[at] == BACKSLASH and at + 1 < len(line):
            if line[at + 1] not in (QUOTE, BACKSLASH):
                raise TextError(number, at + 1, "quoted")
            at += 1
        signs.append(line[at])
        at += 1
    if at == len(line):
        raise TextError(number, start + 1, "quoted")
    return "".join(signs), at + 1

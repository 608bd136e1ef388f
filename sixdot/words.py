"""What the lines of all texts share: how a text is parted into lines, and how numbers and cells are written."""

from sixdot.table import cell_of

DOTS = "123456"

# A number is written in parts of so many digits, as str takes only numbers of some thousand digits.
PART_DIGITS = 64
PART = 10 ** 64


def lines_of(text):
    """Returns the list of the lines of a text, without their newlines."""
    lines = text.split("\n")
    # Behind the last newline no further line begins; so a text of no characters has no line at all.
    if lines[-1] == "":
        lines.pop()
    return lines


def number_of(word, digits):
    """Returns the number that a word writes with at most so many digits and no zero in front, or None."""
    # The length is looked at first: int is not to be given rows of digits of any length.
    if len(word) > digits or not (word.isascii() and word.isdigit()):
        return None
    if word[0] == "0" and word != "0":
        return None
    return int(word)


def number_word(number):
    """Returns the decimal digits of a number, however many they are; behind a minus, if it is below 0."""
    parts = []
    rest = abs(number)
    while rest >= PART:
        rest, part = divmod(rest, PART)
        parts.append(str(part).zfill(PART_DIGITS))
    parts.append(str(rest))
    if number < 0:
        parts.append("-")
    return "".join(reversed(parts))


def point_word(numbers):
    """Returns numbers as a word, with a point between them."""
    return ".".join([number_word(number) for number in numbers])


def cell_of_word(word):
    """Returns the cell that a word writes, or None."""
    if word == "-":
        return 0
    if word == "" or word != "".join([dot for dot in DOTS if dot in word]):
        return None
    return cell_of([int(dot) for dot in word])

"""The errors of the program, one class for each kind of failure."""

from sixdot.words import number_word, point_word


class SixdotError(ValueError):
    """Every error that the program raises is one of these."""


class TextError(SixdotError):
    """A text cannot be read; lines and columns count from 1."""

    def __init__(self, line, column, reason):
        super().__init__(f"line {number_word(line)}, column {number_word(column)}: {reason}")
        self.line = line
        self.column = column
        self.reason = reason


class TooLarge(SixdotError):
    """More of something than the program takes; the limit tells of what."""

    def __init__(self, limit):
        super().__init__(f"too large: {limit}")
        self.limit = limit


class NoWriting(SixdotError):
    """The text of a block has no writing."""

    def __init__(self, block):
        super().__init__(f"the text of block {number_word(block)} has no writing")
        self.block = block


class NoLayout(SixdotError):
    """The lines of a book cannot be put on pages."""

    def __init__(self, line):
        super().__init__(f"there are no pages behind line {number_word(line)}")
        self.line = line


class Unreadable(SixdotError):
    """Volumes have a fault at a place."""

    def __init__(self, place, reason):
        super().__init__(f"fault at {point_word(place)}: {reason}")
        self.place = place
        self.reason = reason


class SeveralTexts(SixdotError):
    """A row has several texts; these are the two least ones."""

    def __init__(self, first, second):
        super().__init__(f"the row has the texts {first!r} and {second!r}")
        self.first = first
        self.second = second


class NoText(SixdotError):
    """A row has no text."""

    def __init__(self, place):
        super().__init__(f"the row has no text: it cannot be read at {number_word(place)}")
        self.place = place


class StrangeSheet(SixdotError):
    """Sheets that lie on a heap are not short of those to be bound."""

    def __init__(self, place):
        super().__init__(f"the sheet at {number_word(place)} is strange")
        self.place = place


class NotMissing(SixdotError):
    """A further sheet is not the missing one whose turn it is."""

    def __init__(self, number):
        super().__init__(f"the further sheet {number_word(number)} is not the one whose turn it is")
        self.number = number


class InvalidLine(SixdotError):
    """A line is none that a desk takes."""

    def __init__(self, line):
        super().__init__(f"a desk takes no such line: {line!r}")
        self.line = line


class InvalidShape(SixdotError):
    """A shape is none that the document lets by."""


class InvalidJournal(SixdotError):
    """A text is none that a press can go on from as its journal."""

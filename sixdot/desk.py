"""A desk that obeys lines: it keeps a table, a shape, a book and volumes, and answers what is done with them."""

from sixdot.back import read_back
from sixdot.change import renew
from sixdot.errors import InvalidLine, InvalidShape, NoLayout, NoWriting, TextError, TooLarge, Unreadable
from sixdot.reader import read_book, read_table
from sixdot.reading import texts_of
from sixdot.report import label_word, read_row, row_line, sheet_lines
from sixdot.shape import Marks, Shape
from sixdot.table import Book, is_sign, same_book
from sixdot.unique import decide
from sixdot.volumes import lay_out
from sixdot.words import number_of
from sixdot.writer import ended, write_quoted
from sixdot.writing import best_writing

MOST_LINE_CHARACTERS = 200
MOST_DRAFT_LINES = 300
MOST_CELL_WORDS = 199
SHAPE_DIGITS = 2
SHEET_DIGITS = 4


class Kept:
    """What a desk keeps; None is what it has not."""

    def __init__(self):
        self.draft = []
        self.table = None
        self.shape = None
        self.book = None
        self.volumes = None


def refused(reason):
    """Returns the answer to a line that is refused."""
    return [f"refused {reason}"]


def text_answer(kept, words):
    """Adds a line to the draft."""
    if len(kept.draft) == MOST_DRAFT_LINES:
        return refused("full")
    kept.draft.append(" ".join(words))
    return [f"lines {len(kept.draft)}"]


def drop_answer(kept, words):
    """Empties the draft."""
    kept.draft = []
    return ["dropped"]


def refused_text(line, column, reason):
    """Returns the answer to a line for which the draft cannot be read."""
    return refused(f"text {line} {column} {reason}")


def table_answer(kept, words):
    """Takes the draft as a table."""
    try:
        table = read_table(ended(kept.draft))
    except TextError as error:
        return refused_text(error.line, error.column, error.reason)
    except TooLarge:
        return refused("large")
    kept.table = table
    kept.volumes = None
    kept.draft = []
    return [f"table {len(table.rules)}"]


def book_answer(kept, words):
    """Takes the draft as a book."""
    try:
        book = read_book(ended(kept.draft))
    except TextError as error:
        return refused_text(error.line, error.column, error.reason)
    except TooLarge:
        return refused("large")
    kept.book = book
    kept.draft = []
    return [f"book {len(book.blocks)}"]


def desk_marks():
    """Returns the marks of all shapes of a desk."""
    return Marks([60], [61], [[62, 1], [62, 2], [62, 3]], [63], [59], [58], [57], [56])


def shape_answer(kept, words):
    """Makes a shape."""
    numbers = [number_of(word, SHAPE_DIGITS) for word in words]
    if None in numbers:
        return refused("number")
    width, height, size = numbers
    try:
        kept.shape = Shape(width, height, size, desk_marks())
    except InvalidShape:
        return refused("shape")
    kept.volumes = None
    return ["shape"]


def write_answer(kept, words):
    """Writes a text."""
    best = best_writing(kept.table, " ".join(words))
    return refused("writing") if best is None else [row_line(best[0])]


def texts_answer(kept, words):
    """Reads a row."""
    row = read_row(words)
    if row is None:
        return refused("cell")
    try:
        texts = texts_of(kept.table, row)
    except TooLarge:
        return refused("large")
    return [write_quoted(text) for text in texts]


def readable_answer(kept, words):
    """Decides if the table is readable."""
    try:
        told = decide(kept.table)
    except TooLarge:
        return refused("large")
    if told[0] == "readable":
        return ["yes"]
    _, row, first, second = told
    return ["no", row_line(row), write_quoted(first), write_quoted(second)]


def sheet_count(volumes):
    """Returns the number of sheets in volumes."""
    return sum([len(volume) for volume in volumes])


def sheets_answer(volumes):
    """Returns the answer that tells how many sheets there are, in how many volumes."""
    return [f"sheets {sheet_count(volumes)} in {len(volumes)}"]


def lay_answer(kept, words):
    """Lays the book out."""
    try:
        volumes = lay_out(kept.shape, kept.table, kept.book)
    except NoWriting as unwritten:
        return refused(f"writing {unwritten.block}")
    except NoLayout as unplaced:
        return refused(f"layout {unplaced.line}")
    kept.volumes = volumes
    return sheets_answer(volumes)


def renew_answer(kept, words):
    """Renews the volumes for the book."""
    try:
        volumes, labels = renew(kept.shape, kept.table, kept.volumes, kept.book)
    except NoWriting as unwritten:
        return refused(f"writing {unwritten.block}")
    kept.volumes = volumes
    answer = [f"new {len(labels)} of {sheet_count(volumes)}"]
    if labels:
        answer.append(" ".join([label_word(label) for label in labels]))
    return answer


def back_answer(kept, words):
    """Reads the volumes back."""
    try:
        book = read_back(kept.shape, kept.table, kept.volumes)
    except Unreadable as fault:
        # The place of no numbers is left out.
        words_of_place = [label_word(fault.place)] if fault.place else []
        return [" ".join(["fault"] + words_of_place + [fault.reason])]
    except TooLarge:
        return ["large"]
    return ["same" if same_book(book, kept.book) else "other"]


def place_of(volumes, words):
    """Returns the place of the sheet that two words tell, a pair of numbers, or None if there is none."""
    numbers = [number_of(word, SHEET_DIGITS) for word in words]
    if None in numbers:
        return None
    volume, sheet = numbers
    return (volume, sheet) if volume < len(volumes) and sheet < len(volumes[volume]) else None


def sheet_answer(kept, words):
    """Shows a sheet."""
    place = place_of(kept.volumes, words)
    return refused("number") if place is None else sheet_lines(kept.volumes[place[0]][place[1]])


def fall_answer(kept, words):
    """Takes a sheet out of the volumes."""
    place = place_of(kept.volumes, words)
    if place is None:
        return refused("number")
    volume, sheet = place
    del kept.volumes[volume][sheet]
    if not kept.volumes[volume]:
        del kept.volumes[volume]
    return sheets_answer(kept.volumes)


# What answers a line, by its first word; it gets what is kept and the other words.
ANSWERS = {
    "text": text_answer, "drop": drop_answer, "table": table_answer, "book": book_answer, "shape": shape_answer,
    "write": write_answer, "texts": texts_answer, "readable": readable_answer, "lay": lay_answer,
    "renew": renew_answer, "back": back_answer, "sheet": sheet_answer, "fall": fall_answer,
}

# How many words stand behind the first one; where nothing is told, none.
COUNTS = {"shape": 3, "sheet": 2, "fall": 2}
# What may have any number of words.
FREE = ("text", "write")

# What has to be kept for a line, in the order in which it is asked for.
NEEDS = {
    "write": ("table",), "texts": ("table",), "readable": ("table",), "lay": ("table", "shape", "book"),
    "renew": ("table", "shape", "book", "volumes"), "back": ("table", "shape", "volumes"),
    "sheet": ("shape", "volumes"), "fall": ("volumes",),
}


def has_count(word, many):
    """Returns True if so many words may stand behind the first one."""
    if word == "texts":
        return many <= MOST_CELL_WORDS
    return word in FREE or many == COUNTS.get(word, 0)


def lacking(kept, needs):
    """Returns the first of the names of what is needed that is not kept, or None."""
    held = {"table": kept.table, "shape": kept.shape, "book": kept.book, "volumes": kept.volumes}
    for name in needs:
        if held[name] is None:
            return name
    return None


def answer_to(kept, line):
    """Returns the answer to a line, and does with what is kept what the line tells."""
    first, *words = line.split(" ")
    if first not in ANSWERS:
        return refused("word")
    if not has_count(first, len(words)):
        return refused("count")
    reason = lacking(kept, NEEDS.get(first, ()))
    if reason is not None:
        return refused(reason)
    action = ANSWERS[first]
    return action(kept, words)


class Desk:
    """Obeys lines, one after the other."""

    def __init__(self):
        self._kept = Kept()
        self._lines = []

    def obey(self, line):
        """Returns the answer to a line, a list of lines."""
        if len(line) > MOST_LINE_CHARACTERS or not all([is_sign(character) for character in line]):
            raise InvalidLine(line)
        answer = answer_to(self._kept, line)
        self._lines.append(line)
        return answer

    def lines(self):
        """Returns the list of all lines that were given to obey without an error."""
        return list(self._lines)

    def volumes(self):
        """Returns the volumes, or None."""
        if self._kept.volumes is None:
            return None
        return [list(volume) for volume in self._kept.volumes]

    def book(self):
        """Returns the book, or None."""
        return None if self._kept.book is None else Book(self._kept.book.blocks)


def answers_of(lines):
    """Returns the list of the answers of a new desk to these lines."""
    desk = Desk()
    return [desk.obey(line) for line in lines]

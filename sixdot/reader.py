"""The texts of tables and the markups of books, read."""

from sixdot.errors import TextError, TooLarge
from sixdot.lexer import check_signs, pieces
from sixdot.table import BEGINNING, END, MOST_BLOCKS, MOST_NUMBERS, MOST_RULE_CELLS, MOST_RULES, PLAIN_BLOCKS
from sixdot.table import Book, Rule, Table
from sixdot.table import are_signs, is_mode, is_mode_count, is_neighbour, is_rule_text, text_fault
from sixdot.words import cell_of_word, lines_of, number_of

MOST_TABLE_CHARACTERS = 20000
MOST_BOOK_CHARACTERS = 100000
TABLE_DIGITS = 3


class LineReader:
    """Reads the pieces of one line of a table's text from left to right."""

    def __init__(self, line, number):
        self.parts = pieces(line, number)
        self.number = number
        self.end = len(line) + 1
        self.at = 0

    def is_empty(self):
        """Returns True if the line has no pieces."""
        return self.parts == []

    def sees(self, kind, word):
        """Returns True if the next piece is of this kind, and is this word if it is a plain one."""
        if self.at == len(self.parts):
            return False
        found, text, _ = self.parts[self.at]
        return found == kind and (kind == "quoted" or text == word)

    def plain_word(self):
        """Returns the next piece if it is a plain one, otherwise the empty string, which no plain piece is."""
        if self.at == len(self.parts):
            return ""
        kind, text, _ = self.parts[self.at]
        return text if kind == "plain" else ""

    def begin(self, word, more):
        """Reads the first piece, which is to be a word; more tells if a further line may stand here at all."""
        if not more or not self.sees("plain", word):
            raise TextError(self.number, self.parts[0][2], "line")
        self.at += 1

    def take(self, due):
        """Reads the next piece and returns its text; due tells if it is what is due."""
        if not due:
            self.refuse()
        text = self.parts[self.at][1]
        self.at += 1
        return text

    def take_word(self, word):
        """Reads a word."""
        self.take(self.sees("plain", word))

    def take_quoted(self):
        """Reads a quoted string and returns what it is."""
        return self.take(self.sees("quoted", ""))

    def take_number(self):
        """Reads a number and returns it."""
        number = number_of(self.plain_word(), TABLE_DIGITS)
        self.take(number is not None)
        return number

    def sees_cell(self):
        """Returns True if the next piece is a cell."""
        return cell_of_word(self.plain_word()) is not None

    def take_cell(self):
        """Reads a cell and returns it."""
        return cell_of_word(self.take(self.sees_cell()))

    def refuse(self):
        """Raises TextError at the next piece, or behind the line's last character."""
        column = self.end if self.at == len(self.parts) else self.parts[self.at][2]
        raise TextError(self.number, column, "expected")

    def check_range(self, holds):
        """Raises TextError at the piece that was read last if a table does not have it there."""
        if not holds:
            raise TextError(self.number, self.parts[self.at - 1][2], "range")

    def finish(self):
        """Raises TextError if pieces are left."""
        if self.at < len(self.parts):
            self.refuse()


def read_signs(reader):
    """Reads the line of the signs and returns them."""
    reader.begin("signs", True)
    signs = reader.take_quoted()
    reader.check_range(are_signs(signs))
    reader.finish()
    return signs


def read_modes(reader):
    """Reads the line of the modes and returns their number."""
    reader.begin("modes", True)
    modes = reader.take_number()
    reader.check_range(is_mode_count(modes))
    reader.finish()
    return modes


def read_mode(reader, modes):
    """Reads a mode and returns it."""
    mode = reader.take_number()
    reader.check_range(is_mode(mode, modes))
    return mode


def read_cells(reader):
    """Reads the cells of a rule and returns the list of them."""
    cells = [reader.take_cell()]
    while reader.sees_cell():
        cells.append(reader.take_cell())
        reader.check_range(len(cells) <= MOST_RULE_CELLS)
    return cells


def read_neighbour(reader, word, signs, edge):
    """Reads what stands behind `ahead` or `behind` and returns it, or None if the word does not come."""
    if not reader.sees("plain", word):
        return None
    reader.take_word(word)
    text = reader.take_quoted()
    reader.check_range(is_neighbour(text, signs, edge))
    return text


def read_rule(reader, signs, modes, more):
    """Reads the line of a rule and returns it; more tells if a table may have a further rule."""
    reader.begin("rule", more)
    mode = read_mode(reader, modes)
    text = reader.take_quoted()
    reader.check_range(is_rule_text(text, signs))
    reader.take_word("=")
    cells = read_cells(reader)
    reader.take_word("to")
    to = read_mode(reader, modes)
    ahead = read_neighbour(reader, "ahead", signs, BEGINNING)
    behind = read_neighbour(reader, "behind", signs, END)
    reader.finish()
    return Rule(mode, text, cells, to, ahead=ahead, behind=behind)


def read_table(text):
    """Returns the table with this text."""
    if len(text) > MOST_TABLE_CHARACTERS:
        raise TooLarge("text")
    lines = lines_of(text)
    signs = None
    modes = None
    rules = []
    for number, line in enumerate(lines, start=1):
        reader = LineReader(line, number)
        if reader.is_empty():
            continue
        if signs is None:
            signs = read_signs(reader)
        elif modes is None:
            modes = read_modes(reader)
        else:
            rules.append(read_rule(reader, signs, modes, len(rules) < MOST_RULES))
    if modes is None:
        raise TextError(len(lines) + 1, 1, "end")
    return Table(signs, modes, rules)


def read_block(line, number):
    """Returns the block that a line of a markup writes."""
    word = line.partition(" ")[0]
    if number > MOST_BLOCKS or not (word in PLAIN_BLOCKS or word in MOST_NUMBERS or word == "break"):
        raise TextError(number, 1, "line")
    if word == "break":
        if line != word:
            raise TextError(number, len(word) + 1, "expected")
        return (word,)
    parts = line.split(" ", 2 if word in MOST_NUMBERS else 1)
    # A line that lacks its number or its text is refused for that first, whatever its number is: point 4.
    if len(parts) == 1 or parts[-1] == "" or (word in MOST_NUMBERS and len(parts) == 2):
        raise TextError(number, len(line) + 1, "expected")
    if word in MOST_NUMBERS:
        return (word, block_number(parts[1], word, number), block_text(parts[2], line, number))
    return (word, block_text(parts[1], line, number))


def block_number(written, word, number):
    """Returns the depth of an item or the label of a note, which stands one space behind the word."""
    most = MOST_NUMBERS[word]
    found = number_of(written, len(str(most)))
    if found is None or not 1 <= found <= most:
        raise TextError(number, len(word) + 2, "number")
    return found


def block_text(text, line, number):
    """Returns the text that ends a line if a block may have it."""
    fault = text_fault(text)
    if fault is not None:
        raise TextError(number, len(line) - len(text) + fault + 1, "text")
    return text


def read_book(text):
    """Returns the book with this markup."""
    if len(text) > MOST_BOOK_CHARACTERS:
        raise TooLarge("text")
    lines = lines_of(text)
    if lines == []:
        raise TextError(1, 1, "end")
    blocks = []
    for number, line in enumerate(lines, start=1):
        check_signs(line, number)
        blocks.append(read_block(line, number))
    return Book(blocks)

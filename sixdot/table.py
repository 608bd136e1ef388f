"""Signs, cells, tables and books, and which tables and books are let by."""

MOST_CELL = 63
MOST_SIGNS = 60
MOST_MODES = 4
MOST_RULES = 80
MOST_RULE_SIGNS = 4
MOST_RULE_CELLS = 4
MOST_BLOCKS = 200
MOST_TEXT_SIGNS = 400

# What stands for the beginning of a text in `ahead`, and for its end in `behind`.
BEGINNING = "^"
END = "$"

PLAIN_BLOCKS = ("head", "par")
# The blocks with a number, and the greatest number of each.
MOST_NUMBERS = {"item": 3, "note": 99}


class Rule:
    """By which cells a text is written, in which mode and next to what."""

    def __init__(self, mode, text, cells, to, *, ahead=None, behind=None):
        self.mode = mode
        self.text = text
        self.cells = list(cells)
        self.to = to
        self.ahead = ahead
        self.behind = behind


class Table:
    """The signs, the number of modes, and the rules."""

    def __init__(self, signs, modes, rules):
        self.signs = signs
        self.modes = modes
        # The rules are copied too: a rule that was passed may be changed later on.
        self.rules = [copy_of_rule(rule) for rule in rules]


class Book:
    """A list of blocks, which are tuples."""

    def __init__(self, blocks):
        self.blocks = list(blocks)


def copy_of_rule(rule):
    """Returns a new rule with the same parts."""
    return Rule(rule.mode, rule.text, rule.cells, rule.to, ahead=rule.ahead, behind=rule.behind)


def same_rule(rule, other):
    """Returns True if all parts of two rules are equal."""
    return (
        rule.mode == other.mode
        and rule.text == other.text
        and rule.cells == other.cells
        and rule.to == other.to
        and rule.ahead == other.ahead
        and rule.behind == other.behind
    )


def same_table(table, other):
    """Returns True if all parts of two tables are equal, those of their rules too."""
    return (
        table.signs == other.signs
        and table.modes == other.modes
        and len(table.rules) == len(other.rules)
        and all([same_rule(rule, twin) for rule, twin in zip(table.rules, other.rules)])
    )


def same_book(book, other):
    """Returns True if all parts of two books are equal."""
    return book.blocks == other.blocks


def is_sign(character):
    """Returns True if a character is one from the space to the tilde."""
    return " " <= character <= "~"


def are_different(text):
    """Returns True if no character stands twice in a text."""
    return len(set(text)) == len(text)


def are_signs(signs):
    """Returns True if a table may have these signs."""
    return (
        1 <= len(signs) <= MOST_SIGNS
        and are_different(signs)
        and all([is_sign(sign) and sign not in (BEGINNING, END) for sign in signs])
    )


def is_mode_count(modes):
    """Returns True if a table may have so many modes."""
    return 1 <= modes <= MOST_MODES


def is_mode(mode, modes):
    """Returns True if a table with so many modes has this one."""
    return 0 <= mode < modes


def is_rule_text(text, signs):
    """Returns True if a rule of a table with these signs may have this text."""
    return 1 <= len(text) <= MOST_RULE_SIGNS and all([sign in signs for sign in text])


def are_rule_cells(cells):
    """Returns True if a rule may have these cells."""
    return 1 <= len(cells) <= MOST_RULE_CELLS and all([0 <= cell <= MOST_CELL for cell in cells])


def is_neighbour(text, signs, edge):
    """Returns True if a rule may have this `ahead` or `behind`; the edge is what it may hold besides signs."""
    if text is None:
        return True
    return text != "" and are_different(text) and all([sign in signs or sign == edge for sign in text])


def is_rule(rule, signs, modes):
    """Returns True if a table with these signs and so many modes may have the rule."""
    return (
        is_mode(rule.mode, modes)
        and is_rule_text(rule.text, signs)
        and are_rule_cells(rule.cells)
        and is_mode(rule.to, modes)
        and is_neighbour(rule.ahead, signs, BEGINNING)
        and is_neighbour(rule.behind, signs, END)
    )


def has_parts(rule):
    """Returns True if a rule has signs and cells; without them, as in no table that is let by, it is never used."""
    return rule.text != "" and rule.cells != []


def is_let_by(table):
    """Returns True if the table is let by."""
    return (
        are_signs(table.signs)
        and is_mode_count(table.modes)
        and len(table.rules) <= MOST_RULES
        and all([is_rule(rule, table.signs, table.modes) for rule in table.rules])
    )


def text_fault(text):
    """Returns the index of the first sign by which no block has this text, or None; all its characters are signs."""
    for at, sign in enumerate(text):
        if at == MOST_TEXT_SIGNS or (sign == " " and is_spare_space(text, at)):
            return at
    return None


def is_spare_space(text, at):
    """Returns True if the space at an index begins or ends the text, or stands behind another space."""
    return at == 0 or at == len(text) - 1 or text[at - 1] == " "


def is_text(text):
    """Returns True if a block may have this text."""
    return text != "" and all([is_sign(sign) for sign in text]) and text_fault(text) is None


def is_block(block):
    """Returns True if a book may have this block."""
    if len(block) == 2 and block[0] in PLAIN_BLOCKS:
        return is_text(block[1])
    if len(block) == 3 and block[0] in MOST_NUMBERS:
        return 1 <= block[1] <= MOST_NUMBERS[block[0]] and is_text(block[2])
    return block == ("break",)


def is_book(book):
    """Returns True if the book is let by."""
    return 1 <= len(book.blocks) <= MOST_BLOCKS and all([is_block(block) for block in book.blocks])


def dots_of(cell):
    """Returns the ascending list of the dots of a cell."""
    return [dot for dot in range(1, 7) if cell >> (dot - 1) & 1]


def cell_of(dots):
    """Returns the cell with the dots of a list."""
    return sum([2 ** digit for digit in range(6) if digit + 1 in dots])

"""Points 8, 10 and 12 (what is written), and the interface of sixdot/writer.py."""

import random
import unittest

from sixdot.reader import read_book, read_table
from sixdot.table import Book, Rule, Table, is_book, is_let_by, same_book, same_table
from sixdot.writer import write_book, write_cell, write_quoted, write_table

PRINTABLE = "".join(chr(code) for code in range(32, 127))
FREE_SIGNS = PRINTABLE.replace("^", "").replace("$", "")


def made_table(chance):
    """Returns a table that is let by, made by chance."""
    signs = "".join(chance.sample(FREE_SIGNS, chance.randint(1, 60)))
    modes = chance.randint(1, 4)

    def neighbour(edge):
        if chance.random() < 0.5:
            return None
        free = signs + edge
        return "".join(chance.sample(free, chance.randint(1, min(len(free), 6))))

    rules = [
        Rule(
            chance.randrange(modes),
            "".join(chance.choices(signs, k=chance.randint(1, 4))),
            [chance.randrange(64) for _ in range(chance.randint(1, 4))],
            chance.randrange(modes),
            ahead=neighbour("^"),
            behind=neighbour("$"),
        )
        for _ in range(chance.choice([0, 1, 5, 80]))
    ]
    return Table(signs, modes, rules)


def made_text(chance):
    """Returns a text that a book may have, made by chance."""
    words = ["".join(chance.choices(PRINTABLE[1:], k=chance.randint(1, 9))) for _ in range(chance.randint(1, 30))]
    return " ".join(words)


class WriterTest(unittest.TestCase):
    def test_cells(self):
        for cell, written in [(0, "-"), (1, "1"), (2, "2"), (3, "12"), (33, "16"), (60, "3456"), (62, "23456"), (63, "123456")]:
            self.assertEqual(write_cell(cell), written)
        self.assertEqual(len({write_cell(cell) for cell in range(64)}), 64)

    def test_quoted(self):
        cases = [("", '""'), ("a b", '"a b"'), ('"', r'"\""'), ("\\", r'"\\"'), ('\\"', r'"\\\""'), ('a"\\b', r'"a\"\\b"'),
                 ("^$", '"^$"')]
        for text, written in cases:
            self.assertEqual(write_quoted(text), written)

    def test_table(self):
        rules = [
            Rule(0, "a", [0], 1),
            Rule(1, '" \\', [1, 63, 0, 3], 0, ahead="^a"),
            Rule(0, "ab", [2], 0, behind="$"),
            Rule(1, "b", [4], 1, ahead='"', behind="\\ $"),
        ]
        wanted = [
            r'signs "ab \"\\"',
            "modes 2",
            'rule 0 "a" = - to 1',
            r'rule 1 "\" \\" = 1 123456 - 12 to 0 ahead "^a"',
            'rule 0 "ab" = 2 to 0 behind "$"',
            r'rule 1 "b" = 3 to 1 ahead "\"" behind "\\ $"',
        ]
        self.assertEqual(write_table(Table('ab "\\', 2, rules)), "".join(line + "\n" for line in wanted))
        self.assertEqual(write_table(Table("a", 1, [])), 'signs "a"\nmodes 1\n')

    def test_book(self):
        blocks = [("head", "A b"), ("par", "~ \"\\"), ("item", 3, "3 c"), ("note", 99, "d"), ("break",), ("note", 1, "e")]
        wanted = 'head A b\npar ~ "\\\nitem 3 3 c\nnote 99 d\nbreak\nnote 1 e\n'
        self.assertEqual(write_book(Book(blocks)), wanted)

    def test_a_label_that_is_a_great_number(self):
        self.assertEqual(write_book(Book([("note", 10 ** 5000, "a"), ("note", 0, "b")])), f"note 1{'0' * 5000} a\nnote 0 b\n")

    def test_tables_there_and_back(self):
        chance = random.Random(1)
        for _ in range(60):
            table = made_table(chance)
            self.assertTrue(is_let_by(table))
            text = write_table(table)
            self.assertTrue(same_table(read_table(text), table))
            self.assertTrue(same_table(read_table(text[:-1]), table))
            self.assertEqual(write_table(read_table(text)), text)

    def test_the_largest_table_is_read(self):
        signs = '"\\' + "".join(sign for sign in FREE_SIGNS if sign not in '"\\')[:58]
        rules = [Rule(3, '"\\"\\', [63] * 4, 3, ahead=signs + "^", behind=signs + "$")] * 80
        table = Table(signs, 4, rules)
        self.assertTrue(is_let_by(table))
        self.assertTrue(same_table(read_table(write_table(table)), table))

    def test_books_there_and_back(self):
        chance = random.Random(2)
        for _ in range(40):
            blocks = [
                chance.choice([
                    ("head", made_text(chance)), ("par", made_text(chance)), ("item", chance.randint(1, 3), made_text(chance)),
                    ("note", chance.randint(1, 99), made_text(chance)), ("break",),
                ])
                for _ in range(chance.choice([1, 2, 200]))
            ]
            book = Book(blocks)
            self.assertTrue(is_book(book))
            text = write_book(book)
            self.assertTrue(same_book(read_book(text), book))
            self.assertTrue(same_book(read_book(text[:-1]), book))
            self.assertEqual(book.blocks, blocks)

    def test_the_largest_book_is_read(self):
        book = Book([("note", 99, "a" * 400)] * 200)
        self.assertTrue(same_book(read_book(write_book(book)), book))

    def test_nothing_that_is_passed_changes(self):
        table = made_table(random.Random(3))
        twin = Table(table.signs, table.modes, table.rules)
        write_table(table)
        self.assertTrue(same_table(table, twin))


if __name__ == "__main__":
    unittest.main()

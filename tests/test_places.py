"""Points 43, 44 and 45, and the interface of sixdot/places.py."""

import random
import unittest

import plain
import plain_change
from sixdot.errors import NoWriting
from sixdot.places import farthest, leads_to, line_ends, places, rows_of, sheet_ends
from sixdot.shape import Marks, Shape
from sixdot.table import Book, Rule, Table

SHAPE = Shape(8, 4, 2, Marks([60], [61], [[62, 1], [62, 2], [62, 3]], [63], [59], [58], [57], [56]))
# By its rules a text is written with its digits as cells; the last one is the sign without a writing.
TABLE = Table("0123456789x", 1, [Rule(0, digit, [int(digit)], 0) for digit in "0123456789"])


def par(digits):
    """Returns a book of one par, and its rows."""
    book = Book([("par", digits)])
    return book, rows_of(TABLE, book)


def sheet(label, front, back=()):
    """Returns a sheet with these lines of the book, and the number lines that are due."""
    number = (56, *plain.pressed_label(label))
    return label, (*front, number), (*back, number) if back else ()


class RowsTest(unittest.TestCase):
    def test_best_writings(self):
        table = Table("ab ", 1, [Rule(0, "a", [3], 0), Rule(0, "b", [2, 2], 0), Rule(0, "ab", [4], 0), Rule(0, " ", [0], 0)])
        book = Book([("head", "ab"), ("break",), ("item", 2, "b a"), ("note", 7, "aab"), ("par", "a")])
        self.assertEqual(rows_of(table, book), [[4], [], [2, 2, 0, 3], [3, 4], [3]])
        self.assertEqual(rows_of(table, Book([])), [])

    def test_texts_that_are_words_of_blocks(self):
        table = Table("abekr", 1, [Rule(0, sign, [at + 1], 0) for at, sign in enumerate("abekr")])
        book = Book([("par", "break"), ("break",), ("note", 1, "break")])
        self.assertEqual(rows_of(table, book), [[2, 5, 3, 1, 4], [], [2, 5, 3, 1, 4]])

    def test_a_text_without_a_writing(self):
        for at in range(3):
            blocks = [("par", "1"), ("break",)]
            blocks.insert(at, ("note", 3, "1x"))
            with self.assertRaises(NoWriting) as caught:
                rows_of(TABLE, Book([*blocks, ("head", "x")]))
            self.assertEqual(caught.exception.block, at)

    def test_the_lists_are_new(self):
        book, rows = par("102")
        rows[0].clear()
        places([[1, 0, 2]], book).clear()
        self.assertEqual(rows_of(TABLE, book), [[1, 0, 2]])
        self.assertEqual(book.blocks, [("par", "102")])


class PlacesTest(unittest.TestCase):
    def check(self, blocks, wanted):
        book = Book(blocks)
        rows = rows_of(TABLE, book)
        self.assertEqual(places(rows, book), wanted)
        self.assertEqual(plain_change.places(rows), wanted)

    def test_texts_and_breaks(self):
        self.check([("par", "1")], [(0, 0, "first"), (1, 0, "first")])
        self.check([("break",)], [(0, 0, "first"), (1, 0, "first")])
        self.check([("head", "12"), ("break",), ("break",), ("note", 99, "3")], [
            (0, 0, "first"), (0, 1, "joined"), (1, 0, "first"), (2, 0, "first"), (3, 0, "first"), (4, 0, "first"),
        ])
        self.check([("item", 1, "123"), ("item", 3, "4")], [
            (0, 0, "first"), (0, 1, "joined"), (0, 2, "joined"), (1, 0, "first"), (2, 0, "first"),
        ])
        self.check([], [(0, 0, "first")])

    def test_joined_before_on(self):
        self.check([("par", "102")], [(0, 0, "first"), (0, 1, "joined"), (0, 2, "joined"), (0, 2, "on"), (1, 0, "first")])
        self.check([("par", "12034")], [
            (0, 0, "first"), (0, 1, "joined"), (0, 2, "joined"), (0, 3, "joined"), (0, 3, "on"), (0, 4, "joined"), (1, 0, "first"),
        ])

    def test_cells_0_at_the_beginning_at_the_end_and_side_by_side(self):
        self.check([("par", "012")], [(0, 0, "first"), (0, 1, "joined"), (0, 2, "joined"), (1, 0, "first")])
        self.check([("par", "10")], [(0, 0, "first"), (0, 1, "joined"), (1, 0, "first")])
        self.check([("par", "0")], [(0, 0, "first"), (1, 0, "first")])
        self.check([("par", "00")], [(0, 0, "first"), (0, 1, "joined"), (1, 0, "first")])
        self.check([("par", "000")], [(0, 0, "first"), (0, 1, "joined"), (0, 2, "joined"), (0, 2, "on"), (1, 0, "first")])
        self.check([("par", "1002")], [
            (0, 0, "first"), (0, 1, "joined"), (0, 2, "joined"), (0, 2, "on"), (0, 3, "joined"), (0, 3, "on"), (1, 0, "first"),
        ])


class LineEndsTest(unittest.TestCase):
    def ends(self, book, rows, place, line, shape=SHAPE):
        return line_ends(shape, book, rows, place, line)

    def test_the_line_to_the_end_of_a_block(self):
        book, rows = par("123")
        self.assertEqual(self.ends(book, rows, (0, 0, "first"), (61, 1, 2, 3)), [(1, 0, "first")])
        self.assertEqual(self.ends(book, rows, (0, 2, "joined"), (57, 3)), [(1, 0, "first")])

    def test_several_places(self):
        book, rows = par("12034")
        self.assertEqual(self.ends(book, rows, (0, 0, "first"), (61, 1, 2)), [(0, 2, "joined"), (0, 3, "on")])
        self.assertEqual(self.ends(book, rows, (0, 0, "first"), (61, 1, 2, 0)), [(0, 3, "joined")])
        self.assertEqual(self.ends(book, rows, (0, 1, "joined"), (57, 2)), [(0, 2, "joined"), (0, 3, "on")])
        self.assertEqual(self.ends(book, rows, (0, 3, "on"), (58, 3)), [(0, 4, "joined")])
        book, rows = par("1002")
        self.assertEqual(self.ends(book, rows, (0, 0, "first"), (61, 1)), [(0, 1, "joined"), (0, 2, "on")])
        self.assertEqual(self.ends(book, rows, (0, 0, "first"), (61, 1, 0)), [(0, 2, "joined"), (0, 3, "on")])
        self.assertEqual(self.ends(book, rows, (0, 2, "on"), (58, 0)), [(0, 3, "joined")])

    def test_cells_0_at_the_beginning_and_at_the_end(self):
        book, rows = par("010")
        self.assertEqual(self.ends(book, rows, (0, 0, "first"), (61, 0)), [(0, 1, "joined")])
        # The last cell is not left out: nothing would be behind it.
        self.assertEqual(self.ends(book, rows, (0, 0, "first"), (61, 0, 1)), [(0, 2, "joined")])
        self.assertEqual(self.ends(book, rows, (0, 0, "first"), (61, 0, 1, 0)), [(1, 0, "first")])

    def test_other_lines(self):
        book, rows = par("12034")
        for line in [
            (), (61,), (1,), (61, 2), (61, 1, 3), (61, 1, 2, 0, 3, 4, 5), (61, 1, 2, 0, 3, 4, 0), (60, 1, 2), (57, 1), (58, 1), (56, 1),
            (59,), (61, 61, 1), (62, 1, 1), (61, 64), (61, -1), (61, 1, 10 ** 30),
        ]:
            self.assertEqual(self.ends(book, rows, (0, 0, "first"), line), [])
        for line in [(57,), (58, 3), (61, 3), (57, 4), (57, 3, 4, 5)]:
            self.assertEqual(self.ends(book, rows, (0, 3, "joined"), line), [])
        for line in [(58,), (57, 3), (61, 3), (58, 0, 3), (58, 4)]:
            self.assertEqual(self.ends(book, rows, (0, 3, "on"), line), [])

    def test_lines_that_are_too_wide(self):
        book, rows = par("12345678901234567890")
        self.assertEqual(self.ends(book, rows, (0, 0, "first"), (61, 1, 2, 3, 4, 5, 6, 7)), [(0, 7, "joined")])
        self.assertEqual(self.ends(book, rows, (0, 0, "first"), (61, 1, 2, 3, 4, 5, 6, 7, 8)), [])
        self.assertEqual(self.ends(book, rows, (0, 1, "joined"), (57, 2, 3, 4, 5, 6, 7, 8)), [(0, 8, "joined")])
        self.assertEqual(self.ends(book, rows, (0, 1, "joined"), (57, 2, 3, 4, 5, 6, 7, 8, 9)), [])
        wide = Shape(9, 4, 2, SHAPE.marks)
        self.assertEqual(self.ends(book, rows, (0, 0, "first"), (61, 1, 2, 3, 4, 5, 6, 7, 8), wide), [(0, 8, "joined")])

    def test_breaks_notes_and_items(self):
        book = Book([("break",), ("note", 12, "34"), ("item", 2, "56"), ("break",)])
        rows = rows_of(TABLE, book)
        self.assertEqual(self.ends(book, rows, (0, 0, "first"), (59,)), [(1, 0, "first")])
        for line in [(59, 0), (59, 59), (), (57, 1), (61,)]:
            self.assertEqual(self.ends(book, rows, (0, 0, "first"), line), [])
        self.assertEqual(self.ends(book, rows, (1, 0, "first"), (63, 2, 3, 0, 3)), [(1, 1, "joined")])
        self.assertEqual(self.ends(book, rows, (1, 0, "first"), (63, 2, 3, 0, 3, 4)), [(2, 0, "first")])
        for line in [(63, 2, 3, 0), (63, 2, 3), (63, 2, 0, 3, 4), (63, 3, 4), (63, 2, 3, 3)]:
            self.assertEqual(self.ends(book, rows, (1, 0, "first"), line), [])
        self.assertEqual(self.ends(book, rows, (2, 0, "first"), (62, 2, 5)), [(2, 1, "joined")])
        self.assertEqual(self.ends(book, rows, (2, 0, "first"), (62, 1, 5)), [])
        self.assertEqual(self.ends(book, rows, (3, 0, "first"), (59,)), [(4, 0, "first")])

    def test_the_last_place(self):
        book, rows = par("12")
        for line in [(61, 1), (59,), (57, 1), (58, 1), (), (56, 2)]:
            self.assertEqual(self.ends(book, rows, (1, 0, "first"), line), [])

    def test_all_lines_of_books_by_chance(self):
        for seed in range(60):
            chance = random.Random(seed)
            shape, table = plain_change.made_shape(chance), plain_change.made_table(chance)
            book = Book(plain_change.made_blocks(chance, chance.randint(1, 3)))
            rows = rows_of(table, book)
            ways = plain_change.Ways(shape, book, rows)
            self.assertEqual(places(rows, book), ways.places)
            lines = sorted({line for place in ways.places for line, _ in ways.on[place]})
            for place in ways.places:
                known = {line for line, _ in ways.on[place]}
                for line in chance.sample(lines, min(len(lines), 20)) + sorted(known):
                    self.assertEqual(line_ends(shape, book, rows, place, line), ways.line_ends(place, line))
                for line in sorted(known):
                    self.assertEqual(line_ends(shape, book, rows, place, line + (chance.choice([0, 1, 70]),) * 9), [])


class FarthestTest(unittest.TestCase):
    def far(self, digits, place, end):
        book, rows = par(digits)
        return farthest(SHAPE, book, rows, place, end)

    def test_an_end_in_the_same_block(self):
        self.assertEqual(self.far("12345678901234", (0, 0, "first"), (0, 12, "joined")), (0, 7, "joined"))
        self.assertEqual(self.far("12345678901234", (0, 0, "first"), (0, 7, "joined")), (0, 7, "joined"))
        self.assertEqual(self.far("12345678901234", (0, 0, "first"), (0, 3, "joined")), (0, 3, "joined"))
        self.assertEqual(self.far("12345678901234", (0, 7, "joined"), (1, 0, "first")), (1, 0, "first"))
        self.assertEqual(self.far("12345678901234", (0, 6, "joined"), (1, 0, "first")), (0, 13, "joined"))

    def test_an_end_with_on(self):
        # The line ends ahead of the cell 0 that is left out.
        self.assertEqual(self.far("1203456", (0, 0, "first"), (0, 3, "on")), (0, 3, "on"))
        self.assertEqual(self.far("1203456", (0, 0, "first"), (0, 3, "joined")), (0, 3, "joined"))
        self.assertEqual(self.far("1203456", (0, 1, "joined"), (0, 3, "on")), (0, 3, "on"))
        # From the cells 2 and 3 no line leads there: its piece would be empty.
        self.assertIsNone(self.far("1203456", (0, 2, "joined"), (0, 3, "on")))
        self.assertIsNone(self.far("1203456", (0, 3, "joined"), (0, 3, "on")))
        self.assertEqual(self.far("1203456", (0, 2, "joined"), (0, 4, "joined")), (0, 4, "joined"))

    def test_places_from_which_no_lines_lead_to_an_end_with_on(self):
        self.assertEqual(self.far("1234567802", (0, 0, "first"), (0, 9, "on")), (0, 7, "joined"))
        self.assertEqual(self.far("1234567023", (0, 0, "first"), (0, 8, "on")), (0, 8, "on"))
        # A line leads to (0, 8, "on"), but from there none leads to (0, 9, "on").
        self.assertEqual(self.far("1234567002", (0, 0, "first"), (0, 9, "on")), (0, 7, "joined"))
        self.assertEqual(self.far("1234567002", (0, 0, "first"), (0, 9, "joined")), (0, 8, "on"))
        self.assertIsNone(self.far("1002", (0, 2, "on"), (0, 3, "on")))
        self.assertIsNone(self.far("1002", (0, 2, "joined"), (0, 3, "on")))
        self.assertEqual(self.far("1002", (0, 1, "joined"), (0, 3, "on")), (0, 3, "on"))

    def test_on_is_farther_than_joined(self):
        self.assertEqual(self.far("123456078901", (0, 0, "first"), (1, 0, "first")), (0, 7, "on"))
        self.assertEqual(self.far("123456708901", (0, 0, "first"), (1, 0, "first")), (0, 8, "on"))
        self.assertEqual(self.far("123456780901", (0, 0, "first"), (1, 0, "first")), (0, 7, "joined"))

    def test_an_end_in_a_later_block(self):
        book = Book([("par", "123"), ("break",), ("note", 10, "4560789"), ("break",)])
        rows = rows_of(TABLE, book)
        for place, end, wanted in [
            ((0, 0, "first"), (4, 0, "first"), (1, 0, "first")), ((0, 0, "first"), (2, 4, "on"), (1, 0, "first")),
            ((0, 2, "joined"), (2, 1, "joined"), (1, 0, "first")), ((1, 0, "first"), (2, 4, "joined"), (2, 0, "first")),
            ((1, 0, "first"), (2, 0, "first"), (2, 0, "first")), ((2, 0, "first"), (3, 0, "first"), (2, 4, "on")),
            ((2, 0, "first"), (2, 4, "joined"), (2, 4, "joined")), ((2, 4, "on"), (4, 0, "first"), (3, 0, "first")),
            ((3, 0, "first"), (4, 0, "first"), (4, 0, "first")),
        ]:
            self.assertEqual(farthest(SHAPE, book, rows, place, end), wanted)

    def test_books_by_chance(self):
        none = 0
        for seed in range(40):
            chance = random.Random(seed)
            shape, table = plain_change.made_shape(chance), plain_change.made_table(chance)
            book = Book(plain_change.made_blocks(chance, chance.randint(1, 3)))
            rows = rows_of(table, book)
            ways = plain_change.Ways(shape, book, rows)
            for place in ways.places:
                for end in ways.places:
                    self.assertEqual(leads_to(place, end), ways.reaches(place, end))
                    if place < end:
                        found = farthest(shape, book, rows, place, end)
                        self.assertEqual(found, ways.farthest(place, end))
                        none += found is None
        self.assertGreater(none, 50)


class SheetEndsTest(unittest.TestCase):
    def setUp(self):
        self.book = Book([("head", "7"), ("par", "12034"), ("break",), ("par", "56")])
        self.rows = rows_of(TABLE, self.book)

    def ends(self, place, told, shape=SHAPE):
        return sheet_ends(shape, self.book, self.rows, place, told)

    def test_a_front_and_a_back(self):
        front = [(60, 7), (61, 1), (57, 2, 0)]
        self.assertEqual(self.ends((0, 0, "first"), sheet((1,), front)), [(1, 3, "joined")])
        self.assertEqual(self.ends((0, 0, "first"), sheet((1,), front, [(57, 3, 4), (59,)])), [(3, 0, "first")])
        self.assertEqual(self.ends((0, 0, "first"), sheet((4, 0, 12), front, [(57, 3)])), [(1, 4, "joined")])
        self.assertEqual(self.ends((1, 0, "first"), sheet((1,), front)), [])
        self.assertEqual(self.ends((0, 0, "first"), sheet((1,), front, [(58, 3, 4)])), [])
        self.assertEqual(self.ends((0, 0, "first"), sheet((1,), front, [(57, 3, 4), (61, 5)])), [])

    def test_several_places(self):
        self.assertEqual(self.ends((1, 0, "first"), sheet((1,), [(61, 1, 2)])), [(1, 2, "joined"), (1, 3, "on")])
        self.assertEqual(self.ends((1, 0, "first"), sheet((1,), [(61, 1)], [(57, 2)])), [(1, 2, "joined"), (1, 3, "on")])
        # Which of the two a page leads to is told by the next one.
        self.assertEqual(self.ends((1, 0, "first"), sheet((1,), [(61, 1, 2)], [(58, 3, 4)])), [(2, 0, "first")])
        self.assertEqual(self.ends((1, 0, "first"), sheet((1,), [(61, 1, 2)], [(57, 0, 3)])), [(1, 4, "joined")])

    def test_an_empty_front(self):
        number = (56, 2)
        for told in [((1,), (), ()), ((1,), (), ((60, 7), number)), ((1,), (), (number,))]:
            self.assertEqual(self.ends((0, 0, "first"), told), [])

    def test_pages_without_lines_of_the_book(self):
        number = (56, 2)
        self.assertEqual(self.ends((0, 0, "first"), ((1,), (number,), ())), [])
        self.assertEqual(self.ends((0, 0, "first"), ((1,), (number,), ((60, 7), number))), [])
        self.assertEqual(self.ends((0, 0, "first"), ((1,), ((60, 7), number), (number,))), [])
        self.assertEqual(self.ends((0, 0, "first"), ((1,), ((60, 7),), ())), [])

    def test_the_height(self):
        lines = [(60, 7), (61, 1), (57, 2), (57, 0)]
        low, high = Shape(8, 4, 2, SHAPE.marks), Shape(8, 5, 2, SHAPE.marks)
        self.assertEqual(self.ends((0, 0, "first"), sheet((1,), lines[:3]), low), [(1, 2, "joined"), (1, 3, "on")])
        self.assertEqual(self.ends((0, 0, "first"), sheet((1,), lines), low), [])
        self.assertEqual(self.ends((0, 0, "first"), sheet((1,), lines), high), [(1, 3, "joined")])
        self.assertEqual(self.ends((0, 0, "first"), sheet((1,), lines[:1], lines[1:]), low), [(1, 3, "joined")])
        self.assertEqual(self.ends((0, 0, "first"), sheet((1,), lines[:1], lines[1:] + [(57, 3)]), low), [])
        self.assertEqual(self.ends((0, 0, "first"), sheet((1,), lines[:1], lines[1:] + [(57, 3)]), high), [(1, 4, "joined")])

    def test_other_number_lines(self):
        line, right = (60, 7), (56, 2, 11, 3)
        self.assertEqual(self.ends((0, 0, "first"), ((1, 2), (line, right), ((61, 1), right))), [(1, 1, "joined")])
        for wrong in [(56, 2), (56, 2, 11, 3, 1), (56,), (), (57, 2, 11, 3), (2, 11, 3), (56, 2, 11, 4), (56, 2, 3)]:
            self.assertEqual(self.ends((0, 0, "first"), ((1, 2), (line, wrong), ((61, 1), right))), [])
            self.assertEqual(self.ends((0, 0, "first"), ((1, 2), (line, right), ((61, 1), wrong))), [])
            self.assertEqual(self.ends((0, 0, "first"), ((1, 2), (line, wrong), ())), [])
        great = (56, 2, *[1] * 5000)
        self.assertEqual(self.ends((0, 0, "first"), ((10 ** 5000,), (line, great), ())), [(1, 0, "first")])
        self.assertEqual(self.ends((0, 0, "first"), ((10 ** 5000,), (line, right), ())), [])

    def test_labels_that_are_none(self):
        for label, number in [((), (56,)), ((0,), (56, 1)), ((1, 0), (56, 2, 11, 1)), ((-1,), (56, 0)), ((1, -1), (56, 2, 11, 0))]:
            self.assertEqual(self.ends((0, 0, "first"), (label, ((60, 7), number), ())), [])

    def test_stops(self):
        self.assertEqual(self.ends((2, 0, "first"), sheet((1,), [(59,)])), [(3, 0, "first")])
        self.assertEqual(self.ends((1, 3, "on"), sheet((1,), [(58, 3, 4), (59,)])), [(3, 0, "first")])
        self.assertEqual(self.ends((1, 3, "on"), sheet((1,), [(58, 3, 4), (59,)], [(61, 5)])), [(3, 1, "joined")])
        self.assertEqual(self.ends((2, 0, "first"), sheet((1,), [(59,)], [(61, 5, 6)])), [(4, 0, "first")])
        # A line `stop` within a page.
        self.assertEqual(self.ends((2, 0, "first"), sheet((1,), [(59,), (61, 5)])), [])
        self.assertEqual(self.ends((1, 3, "on"), sheet((1,), [(58, 3, 4)], [(59,), (61, 5)])), [])
        book = Book([("break",), ("break",)])
        self.assertEqual(sheet_ends(SHAPE, book, [[], []], (0, 0, "first"), sheet((1,), [(59,), (59,)])), [])
        self.assertEqual(sheet_ends(SHAPE, book, [[], []], (0, 0, "first"), sheet((1,), [(59,)], [(59,)])), [(2, 0, "first")])

    def test_the_last_place(self):
        self.assertEqual(self.ends((4, 0, "first"), sheet((1,), [(60, 7)])), [])
        self.assertEqual(self.ends((3, 0, "first"), sheet((1,), [(61, 5, 6)])), [(4, 0, "first")])
        self.assertEqual(self.ends((3, 0, "first"), sheet((1,), [(61, 5, 6)], [(61, 5)])), [])
        self.assertEqual(self.ends((3, 0, "first"), sheet((1,), [(61, 5, 6), (61, 5)])), [])

    def test_what_is_passed_does_not_change(self):
        told = sheet((1,), [(60, 7), (61, 1)])
        self.ends((0, 0, "first"), told).clear()
        line_ends(SHAPE, self.book, self.rows, (0, 0, "first"), (60, 7)).clear()
        self.assertEqual(self.ends((0, 0, "first"), told), [(1, 1, "joined")])
        self.assertEqual(self.rows, [[7], [1, 2, 0, 3, 4], [], [5, 6]])
        self.assertEqual(self.book.blocks, [("head", "7"), ("par", "12034"), ("break",), ("par", "56")])


if __name__ == "__main__":
    unittest.main()

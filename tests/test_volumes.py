"""Points 31 to 34 and 37, and the interface of sixdot/volumes.py."""

import random
import unittest

import plain
from sixdot.back import is_layout, read_back
from sixdot.errors import NoLayout, NoWriting
from sixdot.pages import page_ends
from sixdot.shape import Marks, Shape
from sixdot.table import Book, Rule, Table, is_book
from sixdot.unique import decide
from sixdot.volumes import bind, book_lines, lay_out, sheets_needed

MARKS = Marks([60], [61], [[62, 1], [62, 2], [62, 3]], [63], [59], [58], [57], [56])


def made_table():
    """A readable table, in which some texts have several writings."""
    rules = [Rule(0, sign, [at + 1], 0) for at, sign in enumerate("abc")]
    rules.extend([Rule(0, " ", [0], 0), Rule(0, "ab", [4], 0), Rule(0, "ca", [5], 0, ahead="^ "), Rule(0, "d", [7, 7], 0)])
    return Table("abcd e", 1, rules)


def made_book(chance, most=8):
    """Returns a book with short texts, made by chance."""
    blocks = []
    for _ in range(chance.randint(1, most)):
        words = ["".join(chance.choices("abcd", k=chance.randint(1, 9))) for _ in range(chance.randint(1, 6))]
        text = " ".join(words)
        blocks.append(chance.choice([
            ("head", text[:5].strip()), ("par", text), ("par", text), ("item", chance.randint(1, 3), text),
            ("note", chance.randint(1, 99), text), ("break",),
        ]))
    return Book(blocks)


class LinesTest(unittest.TestCase):
    def setUp(self):
        self.shape = Shape(8, 4, 2, MARKS)
        self.table = made_table()

    def test_each_kind_of_block(self):
        book = Book([
            ("head", "a"), ("par", "ab c"), ("item", 1, "b"), ("item", 3, "d"), ("note", 7, "a"), ("note", 40, "ab"), ("break",),
        ])
        self.assertEqual(book_lines(self.shape, self.table, book), [
            [(60, 1)], [(61, 4, 0, 3)], [(62, 1, 2)], [(62, 3, 7, 7)], [(63, 8, 0, 1)], [(63, 5, 1, 0, 4)], [(59,)],
        ])

    def test_best_writings_and_lines_of_least_cost(self):
        book = Book([("par", "ca ab aaaa cab"), ("note", 12, "bbbbbb a"), ("head", "ccccccccc")])
        self.assertEqual(book_lines(self.shape, self.table, book), [
            [(61, 5, 0, 4), (58, 1, 1, 1, 1, 0, 3, 4)],
            [(63, 2, 3, 0, 2, 2, 2, 2), (57, 2, 2, 0, 1)],
            [(60,) + (3,) * 7, (57, 3, 3)],
        ])

    def test_texts_that_are_words_of_blocks(self):
        table = Table("breakhdpit", 1, [Rule(0, sign, [at + 1], 0) for at, sign in enumerate("breakhdpit")])
        book = Book([("par", "break"), ("head", "break"), ("item", 1, "break"), ("break",), ("par", "head"), ("note", 5, "par")])
        lines = book_lines(self.shape, table, book)
        self.assertEqual(lines[:4], [[(61, 1, 2, 3, 4, 5)], [(60, 1, 2, 3, 4, 5)], [(62, 1, 1, 2, 3, 4, 5)], [(59,)]])
        self.assertEqual(read_back(self.shape, table, lay_out(self.shape, table, book)).blocks, book.blocks)

    def test_a_text_without_a_writing(self):
        for at in range(3):
            blocks = [("par", "a"), ("break",), ("item", 2, "b")]
            blocks.insert(at, ("note", 3, "ae"))
            blocks.append(("head", "e"))
            for function in (book_lines, lay_out):
                with self.assertRaises(NoWriting) as caught:
                    function(self.shape, self.table, Book(blocks))
                self.assertEqual(caught.exception.block, at)

    def test_no_writing_goes_before_no_layout(self):
        with self.assertRaises(NoWriting) as caught:
            lay_out(self.shape, self.table, Book([("head", "a"), ("head", "a"), ("head", "a"), ("head", "a"), ("par", "e")]))
        self.assertEqual(caught.exception.block, 4)

    def test_a_book_without_blocks(self):
        self.assertEqual(book_lines(self.shape, self.table, Book([])), [])
        self.assertEqual(lay_out(self.shape, self.table, Book([])), [])


class BindTest(unittest.TestCase):
    def setUp(self):
        self.shape = Shape(8, 4, 2, MARKS)

    def test_fronts_and_backs(self):
        pages = [[(60, 1)], [(61, 1), (58, 2)], [(61, 3)]]
        self.assertEqual(bind(self.shape, pages, [(1,), (2,)]), [[
            ((1,), ((60, 1), (56, 2)), ((61, 1), (58, 2), (56, 2))), ((2,), ((61, 3), (56, 3)), ()),
        ]])
        self.assertEqual([sheets_needed(self.shape, [[(61, 1)]] * many) for many in range(8)], [0, 1, 1, 2, 2, 3, 3, 4])

    def test_a_front_behind_a_break(self):
        one, stop = [(61, 1)], [(61, 1), (59,)]
        for pages, wanted in [
            ([stop], ["f"]), ([stop, one], ["f", "f"]), ([one, stop], ["fb"]), ([one, stop, one], ["fb", "f"]),
            ([stop, stop, stop], ["f", "f", "f"]), ([one, one, stop, one, one], ["fb", "f", "fb"]),
            ([stop, one, one, one], ["f", "fb", "f"]),
        ]:
            labels = [(k + 1,) for k in range(len(wanted))]
            volumes = bind(self.shape, pages, labels)
            sheets = [sheet for volume in volumes for sheet in volume]
            self.assertEqual(["fb" if back else "f" for _, _, back in sheets], wanted)
            self.assertEqual([label for label, _, _ in sheets], labels)
            self.assertEqual(sheets_needed(self.shape, pages), len(wanted))
            lines = [line for _, front, back in sheets for page in (front, back) for line in page[:-1]]
            self.assertEqual(lines, [line for page in pages for line in page])

    def test_other_lines_that_end_like_a_break(self):
        self.assertEqual(sheets_needed(self.shape, [[(61, 59)], [(61, 59)]]), 1)
        self.assertEqual(sheets_needed(Shape(8, 4, 2, Marks([60], [61], MARKS.depths, [63], [59, 1], [58], [57], [56])),
                                       [[(61, 59)], [(59, 1)], [(61, 1)]]), 2)

    def test_labels_and_number_lines(self):
        labels = [(0, 0, 7), (12, 305)]
        volumes = bind(self.shape, [[(61, 1)], [(61, 2)], [(61, 3)]], labels)
        self.assertEqual([sheet[0] for sheet in volumes[0]], labels)
        self.assertEqual(volumes[0][0][1][-1], (56, 1, 11, 1, 11, 8))
        self.assertEqual(volumes[0][0][2][-1], (56, 1, 11, 1, 11, 8))
        self.assertEqual(volumes[0][1][1][-1], (56, 2, 3, 11, 4, 1, 6))
        # A number line that is longer than the width.
        label = (100000, 0, 1)
        self.assertEqual(bind(self.shape, [[(61, 1)]], [label])[0][0][1][-1], (56, 2, 1, 1, 1, 1, 1, 11, 1, 11, 2))

    def test_a_label_with_a_great_number(self):
        volumes = bind(self.shape, [[(61, 1)], [(61, 2)]], [(10 ** 5000, 7)])
        line = (56, 2, *[1] * 5000, 11, 8)
        self.assertEqual(volumes, [[((10 ** 5000, 7), ((61, 1), line), ((61, 2), line))]])

    def test_volumes_and_their_sheets(self):
        for size in (1, 2, 3):
            shape = Shape(8, 4, size, MARKS)
            for many in range(1, 9):
                pages = [[(61, 1)]] * many
                sheets = (many + 1) // 2
                sizes = [len(volume) for volume in bind(shape, pages, [(k + 1,) for k in range(sheets)])]
                self.assertEqual(sizes, [size] * (sheets // size) + ([sheets % size] if sheets % size else []))
        self.assertEqual(bind(self.shape, [], []), [])

    def test_what_is_passed_does_not_change_and_what_is_returned_is_new(self):
        pages, labels = [[(61, 1)], [(61, 2)], [(61, 3)]], [(1,), (2,)]
        volumes = bind(self.shape, pages, labels)
        sheets_needed(self.shape, pages)
        self.assertEqual((pages, labels), ([[(61, 1)], [(61, 2)], [(61, 3)]], [(1,), (2,)]))
        wanted = [list(volume) for volume in volumes]
        volumes[0].clear()
        self.assertEqual(bind(self.shape, pages, labels), wanted)
        self.assertEqual({volume.__class__ for volume in wanted}, {list})
        self.assertEqual({part.__class__ for sheet in wanted[0] for part in (sheet, *sheet)}, {tuple})


class LayOutTest(unittest.TestCase):
    def test_a_small_book(self):
        shape, table = Shape(8, 4, 1, MARKS), made_table()
        book = Book([("head", "a"), ("par", "bbbbbbb b"), ("break",), ("par", "c")])
        self.assertEqual(lay_out(shape, table, book), [
            [((1,), ((60, 1), (61, 2, 2, 2, 2, 2, 2, 2), (58, 2), (56, 2)), ((59,), (56, 2)))],
            [((2,), ((61, 3), (56, 3)), ())],
        ])

    def test_no_layout(self):
        shape, table = Shape(8, 3, 1, MARKS), made_table()
        with self.assertRaises(NoLayout) as caught:
            lay_out(shape, table, Book([("par", "c"), ("par", "a" * 20)]))
        self.assertEqual(caught.exception.line, 1)

    def test_books_by_chance(self):
        table = made_table()
        self.assertEqual(decide(table)[0], "readable")
        laid = 0
        for seed in range(300):
            chance = random.Random(seed)
            shape = Shape(chance.randint(8, 14), chance.randint(4, 8), chance.randint(1, 4), MARKS)
            book = made_book(chance)
            self.assertTrue(is_book(book))
            lines = book_lines(shape, table, book)
            counts = [len(block) for block in lines]
            ways = plain.pagings(shape.height, book.blocks, counts) if sum(counts) < 14 else None
            if ways == []:
                with self.assertRaises(NoLayout) as caught:
                    lay_out(shape, table, book)
                self.assertEqual(caught.exception.line, plain.last_beginning(shape.height, book.blocks, counts))
                continue
            try:
                volumes = lay_out(shape, table, book)
            except NoLayout:
                self.assertIsNone(ways)
                continue
            laid += 1
            self.check_layout(shape, table, book, volumes, [line for block in lines for line in block])
        self.assertGreater(laid, 100)

    def check_layout(self, shape, table, book, volumes, lines):
        self.assertIs(is_layout(shape, table, volumes), True)
        self.assertEqual(read_back(shape, table, volumes).blocks, book.blocks)
        sheets = [sheet for volume in volumes for sheet in volume]
        self.assertEqual([label for label, _, _ in sheets], [(k + 1,) for k in range(len(sheets))])
        self.assertTrue(all(len(volume) == shape.size for volume in volumes[:-1]))
        self.assertTrue(1 <= len(volumes[-1]) <= shape.size)
        pages = [page[:-1] for _, front, back in sheets for page in (front, back) if page]
        self.assertEqual([line for page in pages for line in page], lines)
        ends = [sum(len(page) for page in pages[:k + 1]) for k in range(len(pages))]
        self.assertEqual(ends, page_ends(shape.height, book.blocks, [len(x) for x in book_lines(shape, table, book)]))
        for (_, front, back), following in zip(sheets, [*sheets[1:], None]):
            # A back is empty behind a break, and at the end, alone.
            self.assertTrue(back or front[-2] == (59,) or following is None)
            self.assertFalse(back and front[-2] == (59,))

    def test_what_is_passed_does_not_change(self):
        table, book = made_table(), Book([("par", "ab c"), ("break",), ("note", 3, "a b c")])
        shape = Shape(8, 4, 2, MARKS)
        before = plain.state_of(table)
        volumes = lay_out(shape, table, book)
        book_lines(shape, table, book)[0].clear()
        wanted = [list(volume) for volume in volumes]
        volumes[0].pop()
        self.assertEqual(lay_out(shape, table, book), wanted)
        self.assertEqual(plain.state_of(table), before)
        self.assertEqual(book.blocks, [("par", "ab c"), ("break",), ("note", 3, "a b c")])

    def test_a_large_book(self):
        table = made_table()
        text = " ".join(["abcab"] * 66)
        self.assertEqual(len(text), 395)
        book = Book([("par", text), ("head", "a b"), ("note", 99, text), ("break",)] * 50)
        shape = Shape(30, 25, 20, MARKS)
        volumes = lay_out(shape, table, book)
        self.assertEqual(read_back(shape, table, volumes).blocks, book.blocks)


if __name__ == "__main__":
    unittest.main()

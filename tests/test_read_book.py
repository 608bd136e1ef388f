"""Points 11 and 12 (markups of books), and `read_book` of sixdot/reader.py."""

import unittest

from sixdot.errors import TextError, TooLarge
from sixdot.reader import read_book
from sixdot.table import Book, is_book

# The beginnings of the lines that have a text.
BEGINNINGS = ["head ", "par ", "item 1 ", "item 3 ", "note 1 ", "note 99 "]


class ReadBookTest(unittest.TestCase):
    def check_error(self, text, line, column, reason):
        with self.subTest(text[-60:]), self.assertRaises(TextError) as caught:
            read_book(text)
        error = caught.exception
        self.assertEqual((error.line, error.column, error.reason), (line, column, reason))

    def check_line_error(self, line, column, reason):
        """The line is tried as the first, the only, a later and the 200th one."""
        self.check_error(line + "\n", 1, column, reason)
        self.check_error(line + "\n\t", 1, column, reason)
        self.check_error("par a\nbreak\n" + line + "\nx", 3, column, reason)
        self.check_error("break\n" * 199 + line + "\n", 200, column, reason)
        if line:
            self.check_error(line, 1, column, reason)

    def test_a_book(self):
        text = "head The one\npar a b c\nitem 2 d\nnote 7 e 8\nbreak\nnote 99 ~\nitem 1 2 3\nitem 3 =\n"
        blocks = [("head", "The one"), ("par", "a b c"), ("item", 2, "d"), ("note", 7, "e 8"), ("break",), ("note", 99, "~"),
                  ("item", 1, "2 3"), ("item", 3, "=")]
        for markup in (text, text[:-1]):
            book = read_book(markup)
            self.assertIsInstance(book, Book)
            self.assertEqual(book.blocks, blocks)
            self.assertTrue(is_book(book))

    def test_all_labels_and_depths(self):
        for label in range(1, 100):
            self.assertEqual(read_book(f"note {label} a").blocks, [("note", label, "a")])
        for depth in range(1, 4):
            self.assertEqual(read_book(f"item {depth} a").blocks, [("item", depth, "a")])

    def test_sign(self):
        self.check_line_error("\t", 1, "sign")
        self.check_line_error("par a\tb", 6, "sign")
        self.check_line_error("par a\x7f\t", 6, "sign")
        self.check_line_error("foot \u00e9", 6, "sign")
        self.check_line_error("item 9 a\r", 9, "sign")
        self.check_line_error("par  a  b\x1f", 10, "sign")
        self.check_line_error("break \x00", 7, "sign")
        self.check_line_error("par " + "a" * 400 + "\u20ac", 405, "sign")
        self.check_error("par \t", 1, 5, "sign")

    def test_line(self):
        for line in ["", " ", "   ", "foot a", " par a", "Par a", "parr a", "headx", "breaks", "1", "par\\ a", '"par" a', "="]:
            self.check_line_error(line, 1, "line")
        self.check_error("par a\n\npar b\n", 2, 1, "line")
        self.check_error("par a\n\n", 2, 1, "line")
        self.check_error("\npar a", 1, 1, "line")

    def test_200_lines(self):
        for line in ["break", "par a"]:
            self.assertEqual(len(read_book((line + "\n") * 200).blocks), 200)
            self.assertEqual(len(read_book(("\n" + line) .lstrip() + ("\n" + line) * 199).blocks), 200)
            for last in ["break", "par a", "", "par", "item 9 a", "break x", "foot"]:
                self.check_error((line + "\n") * 200 + last + "\n", 201, 1, "line")
            self.check_error((line + "\n") * 200 + "par \t", 201, 5, "sign")

    def test_expected(self):
        for line in ["head", "head ", "par", "par ", "item", "item ", "note", "note ", "item 2", "item 2 ", "note 99",
                     "note 99 "]:
            self.check_line_error(line, len(line) + 1, "expected")

    def test_expected_goes_ahead_of_number(self):
        for line in ["item 4", "item 4 ", "item x", "note 0", "note 100", "item  ", "note 01 "]:
            self.check_line_error(line, len(line) + 1, "expected")

    def test_break_with_something_behind_it(self):
        for line in ["break ", "break a", "break  ", "break 1 a"]:
            self.check_line_error(line, 6, "expected")

    def test_number(self):
        for number in ["0", "4", "01", "03", "00", "10", "11", "-1", "+1", "1.", "x", "1x", "x1", "", "12345678901234567890",
                       "9" * 300]:
            self.check_line_error(f"item {number} a", 6, "number")
            self.check_line_error(f"item {number} a  b", 6, "number")
        for number in ["0", "100", "01", "09", "099", "00", "000", "-1", "1-", "9a", "", "990", "=", "12345678901234567890"]:
            self.check_line_error(f"note {number} a", 6, "number")
            self.check_line_error(f"note {number}  a", 6, "number")
        self.check_line_error("item  2 a", 6, "number")
        self.check_line_error("note   a", 6, "number")
        self.check_error("item " + "9" * 90000 + " a", 1, 6, "number")

    def test_text(self):
        for start in BEGINNINGS:
            at = len(start)
            for text, column in [(" ", 1), ("  ", 1), (" a", 1), ("a ", 2), ("a  b", 3), ("a  ", 3), ("a b  c  d", 5),
                                 ("a b ", 4), (" a  b", 1), ("a   b", 3), ("a" * 401, 401), ("a" * 399 + " ", 400),
                                 ("a" * 399 + " b", 401), ("a" * 400 + " ", 401), ("a" * 500, 401), ("a  " + "b" * 400, 3),
                                 ("a" * 401 + "  b", 401)]:
                self.check_line_error(start + text, at + column, "text")

    def test_texts_of_400_signs(self):
        for start in BEGINNINGS:
            for text in ["a" * 400, "a b " * 99 + "abcd", "~" * 399, "a"]:
                block = read_book(start + text).blocks[0]
                self.assertEqual(block[-1], text)

    def test_texts_with_all_signs(self):
        text = "".join(chr(code) for code in range(33, 127))
        self.assertEqual(read_book("par " + text).blocks, [("par", text)])

    def test_the_first_of_two_errors(self):
        self.check_line_error("item 4 a  b", 6, "number")
        self.check_line_error("foot  a", 1, "line")
        self.check_error("par  a\npar \t", 1, 5, "text")
        self.check_error("break\nitem 4 a\nfoot", 2, 6, "number")

    def test_end(self):
        self.check_error("", 1, 1, "end")
        self.check_error("\n", 1, 1, "line")

    def test_number_of_characters(self):
        line = "par " + "a" * 495 + "\n"
        self.check_error(line * 200, 1, 405, "text")
        self.check_error("par " + "a" * 99996, 1, 405, "text")
        for text in [line * 200 + "b", "par " + "a" * 99997, "\t" * 100001, "\n" * 200000]:
            with self.assertRaises(TooLarge) as caught:
                read_book(text)
            self.assertEqual(caught.exception.limit, "text")


if __name__ == "__main__":
    unittest.main()

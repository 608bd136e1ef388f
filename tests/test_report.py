"""What lines the desk writes and reads: the interface of sixdot/report.py."""

import unittest

from sixdot.report import label_word, read_row, row_line, sheet_lines
from sixdot.writer import write_cell


class ReportTest(unittest.TestCase):
    def test_rows(self):
        self.assertEqual(row_line([1, 3, 0, 63]), "1 12 - 123456")
        self.assertEqual(row_line((60, 1)), "3456 1")
        self.assertEqual(row_line([0]), "-")
        self.assertEqual(row_line([]), "")

    def test_labels_and_places(self):
        for label, word in [((1,), "1"), ((2, 0, 1), "2.0.1"), ((0, 12), "0.12"), ((0, 0, 0, 2), "0.0.0.2"), ((), ""), ((100, 305), "100.305")]:
            self.assertEqual(label_word(label), word)

    def test_great_numbers(self):
        zeros = "0" * 4999
        self.assertEqual(label_word((10 ** 4999,)), f"1{zeros}")
        self.assertEqual(label_word((3, 7 * 10 ** 4999 + 12, 1)), f"3.7{zeros[2:]}12.1")
        self.assertEqual(sheet_lines(((10 ** 4999,), ((61, 1), (56, 2)), ()))[0], f"label 1{zeros}")

    def test_sheets(self):
        front, back = ((60, 1, 3), (61, 0), (56, 2)), ((58, 63), (56, 2))
        self.assertEqual(sheet_lines(((1,), front, ())), ["label 1", "front", "3456 1 12", "13456 -", "456 2"])
        self.assertEqual(sheet_lines(((2, 0, 12), front, back)), [
            "label 2.0.12", "front", "3456 1 12", "13456 -", "456 2", "back", "2456 123456", "456 2",
        ])

    def test_rows_that_are_read(self):
        self.assertEqual(read_row(["1", "12", "-", "123456", "3456"]), [1, 3, 0, 63, 60])
        self.assertEqual(read_row([]), [])
        self.assertEqual(read_row(["-"]), [0])
        for cell in range(64):
            self.assertEqual(read_row([write_cell(cell), "-"]), [cell, 0])

    def test_words_that_are_no_written_cells(self):
        for word in ["", "0", "7", "21", "11", "1-", "-1", "--", "a", "1a", " 1", "1 ", "+1", "1.2", "1234567", "\u0661", "01", "123456 "]:
            for words in ([word], ["1", word], [word, "-"]):
                self.assertIsNone(read_row(words))

    def test_what_is_passed_does_not_change_and_what_is_returned_is_new(self):
        row, words, sheet = [1, 0], ["1", "-"], ((1,), ((61, 1), (56, 2)), ())
        row_line(row)
        read_row(words).clear()
        sheet_lines(sheet).clear()
        self.assertEqual((row, words, read_row(words)), ([1, 0], ["1", "-"], [1, 0]))
        self.assertEqual(sheet_lines(sheet), ["label 1", "front", "13456 1", "456 2"])


if __name__ == "__main__":
    unittest.main()

"""Points 63 to 65, and the interface of sixdot/desk.py."""

import random
import unittest

from sixdot.desk import Desk, answers_of
from sixdot.errors import InvalidLine, SixdotError
from sixdot.reader import read_book, read_table
from sixdot.shape import Marks, Shape
from sixdot.table import Book
from sixdot.volumes import lay_out

TABLE = ['signs "ab "', "modes 1", 'rule 0 "a" = 1 to 0', 'rule 0 "b" = 12 to 0', 'rule 0 " " = - to 0']
BOOK = ["head ab", "par a b", "break", "note 7 ba"]
MARKS = Marks([60], [61], [[62, 1], [62, 2], [62, 3]], [63], [59], [58], [57], [56])
WORDS = ["text", "drop", "table", "book", "shape", "write", "texts", "readable", "lay", "renew", "back", "sheet", "fall"]


def draft(lines, word):
    """Returns the lines for a desk that makes this draft and takes it."""
    return [f"text {line}" for line in lines] + [word]


def rules(*told):
    """Returns the lines of the text of a table."""
    return ['signs "abc "', "modes 2", *[f"rule {rule}" for rule in told]]


FULL = draft(TABLE, "table") + draft(BOOK, "book") + ["shape 8 4 2"]


class DeskCase(unittest.TestCase):
    def setUp(self):
        self.desk = Desk()

    def obey(self, *lines):
        """Returns the answer to the last one of the lines."""
        answers = [self.desk.obey(line) for line in lines]
        for answer in answers:
            self.assertIs(answer.__class__, list)
        return answers[-1]

    def state(self):
        """Returns all that the desk has, its draft, table and shape by what it answers, asked of another desk."""
        other = Desk()
        for line in self.desk.lines():
            other.obey(line)
        kept = [other.obey(line) for line in ["readable", "write ab a", "lay", "back", "text x", "drop", "renew"]]
        return kept, self.desk.volumes(), None if self.desk.book() is None else self.desk.book().blocks

    def refuse(self, line, reason):
        """Looks if a line is refused for this reason, and changes nothing."""
        before, lines = self.state(), self.desk.lines()
        self.assertEqual(self.desk.obey(line), [f"refused {reason}"])
        self.assertEqual(self.desk.lines(), [*lines, line])
        self.assertEqual(self.state(), before)


class LinesTest(DeskCase):
    def test_other_first_words(self):
        for line in ["", " ", "   ", "lays", "Lay", "LAY", "la", " lay", "lay.", "text1", "0", "refused word", "-", '"text"', "drop,", "word count"]:
            self.refuse(line, "word")

    def test_counts(self):
        for word in ["drop", "table", "book", "readable", "lay", "renew", "back"]:
            for line in [f"{word} ", f"{word}  ", f"{word} 1", f"{word} {word}", f"{word} a b c"]:
                self.refuse(line, "count")
        for line in ["shape", "shape 8", "shape 8 4", "shape 8 4 2 ", "shape 8 4 2 1", "shape  8 4 2", "shape 8  4 2", "shape   8 4 2"]:
            self.refuse(line, "count")
        for word in ["sheet", "fall"]:
            for line in [word, f"{word} 0", f"{word} ", f"{word} 0 0 0", f"{word} 0 0 ", f"{word}  0 0", f"{word} 0  0"]:
                self.refuse(line, "count")

    def test_an_empty_word_is_a_word(self):
        self.obey(*FULL, "lay")
        # As many words as there have to be, one of which is empty.
        for line in ["shape  8 4", "shape 8  4", "shape 8 4 ", "shape   ", "sheet  0", "sheet 0 ", "sheet  ", "fall  0", "fall 0 "]:
            self.refuse(line, "number")
        for line in ["texts ", "texts  1", "texts 1 ", "texts 1  1"]:
            self.refuse(line, "cell")

    def test_count_goes_before_what_is_lacking(self):
        for line in ["lay 1", "renew ", "back 0", "readable x", "sheet 0", "fall 0 0 0", "shape a b"]:
            self.refuse(line, "count")

    def test_many_words(self):
        # There is no room for more than 195 words behind the first one.
        self.refuse("texts" + " " * 195, "table")
        self.obey(*draft(TABLE, "table"))
        self.refuse("texts" + " " * 195, "cell")
        self.assertEqual(self.obey("texts" + " 1" * 97), ['"' + "a" * 97 + '"'])
        for many in (199, 200):
            with self.assertRaises(InvalidLine):
                self.desk.obey("texts" + " 1" * many)
        self.assertEqual(self.obey("text" + " a" * 98), ["lines 1"])
        self.assertEqual(self.obey("write" + " a" * 97), [" - ".join(["1"] * 97)])

    def test_lines_that_are_too_long(self):
        self.obey("text a")
        self.assertEqual(self.obey("text " + "b" * 195), ["lines 2"])
        self.refuse("x" * 200, "word")
        before, lines = self.state(), self.desk.lines()
        for line in ["text " + "b" * 196, "x" * 201, " " * 201, "drop" + " " * 197, "x" * 10000]:
            with self.assertRaises(InvalidLine) as caught:
                self.desk.obey(line)
            self.assertEqual(caught.exception.line, line)
        self.assertEqual((self.desk.lines(), self.state()), (lines, before))

    def test_characters_that_are_none(self):
        self.obey("text a")
        before, lines = self.state(), self.desk.lines()
        for character in ["\n", "\t", "\x00", "\x1f", "\x7f", "\x80", "\xa0", "\u2801", "\r", "\U0001f600"]:
            for line in [f"text {character}", character, f"drop{character}", f"{character}drop", "x" * 250 + character]:
                with self.assertRaises(InvalidLine) as caught:
                    self.desk.obey(line)
                self.assertEqual(caught.exception.line, line)
                self.assertIsInstance(caught.exception, SixdotError)
        self.assertEqual((self.desk.lines(), self.state()), (lines, before))
        self.assertEqual(self.obey("text ~ !"), ["lines 2"])

    def test_all_lines_are_told(self):
        lines = [*FULL, "lay", "lay 1", "", "what", "text ", "sheet 9 9", "drop"]
        for at, line in enumerate(lines):
            self.desk.obey(line)
            self.assertEqual(self.desk.lines(), lines[:at + 1])
        self.desk.lines().clear()
        self.assertEqual(self.desk.lines(), lines)

    def test_answers_of(self):
        lines = [*FULL, "lay", "back", "sheet 0 0", "what"]
        self.assertEqual(answers_of(lines), [self.desk.obey(line) for line in lines])
        self.assertEqual(answers_of([]), [])
        self.assertEqual(answers_of(["text a", "text b"]), [["lines 1"], ["lines 2"]])
        # Each time a new desk.
        self.assertEqual(answers_of(["text a", "text b"]), [["lines 1"], ["lines 2"]])
        with self.assertRaises(InvalidLine):
            answers_of(["text a", "text \t"])
        self.assertEqual(lines, [*FULL, "lay", "back", "sheet 0 0", "what"])


class DraftTest(DeskCase):
    def test_text_and_drop(self):
        self.assertEqual(self.obey("drop"), ["dropped"])
        self.assertEqual(self.obey("text a"), ["lines 1"])
        self.assertEqual(self.obey("text a"), ["lines 2"])
        self.assertEqual(self.obey("drop"), ["dropped"])
        self.assertEqual(self.obey("text b"), ["lines 1"])

    def test_an_empty_rest(self):
        self.assertEqual(self.obey("text"), ["lines 1"])
        self.assertEqual(self.obey("text "), ["lines 2"])
        self.assertEqual(self.obey("text  "), ["lines 3"])
        self.refuse("book", "text 1 1 line")
        # Empty lines, and those of spaces, are left out of a table; the lines of the draft count.
        self.assertEqual(self.obey(*[f"text {line}" for line in TABLE], "table"), ["table 3"])
        self.assertEqual(self.obey("text", "text ", "text  x", "text y"), ["lines 4"])
        self.refuse("table", "text 3 2 line")

    def test_spaces_of_the_rest(self):
        self.obey("text par  a")
        self.refuse("book", "text 1 5 text")
        self.obey("drop", "text  par a")
        self.refuse("book", "text 1 1 line")
        self.obey("drop", "text par a ")
        self.refuse("book", "text 1 6 text")
        self.obey("drop", "text  signs  \"a b\" ", "text   modes   2")
        self.assertEqual(self.obey("table"), ["table 0"])

    def test_300_lines(self):
        for number in range(300):
            self.assertEqual(self.obey("text break"), [f"lines {number + 1}"])
        self.refuse("text break", "full")
        self.refuse("text", "full")
        self.refuse("book", "text 201 1 line")
        self.assertEqual(self.obey("drop", "text break"), ["lines 1"])

    def test_a_table(self):
        self.assertEqual(self.obey(*draft(TABLE, "table")), ["table 3"])
        # The draft is empty then.
        self.assertEqual(self.obey("text x"), ["lines 1"])
        self.assertEqual(self.obey("drop", *draft(TABLE[:2], "table")), ["table 0"])

    def test_drafts_that_are_no_tables(self):
        for lines, reason in [
            ([], "1 1 end"), (["", "  "], "3 1 end"), (TABLE[:1], "2 1 end"), (["modes 1"], "1 1 line"), (TABLE[1:], "1 1 line"),
            ([*TABLE, 'rule 0 "c" = 1 to 0'], "6 8 range"), ([*TABLE, 'rule 0 "a'], "6 8 quoted"), ([*TABLE, "rule 0"], "6 7 expected"),
            (['signs "ab', "modes 0"], "1 7 quoted"), (['signs "ab"', "modes 0"], "2 7 range"),
        ]:
            self.obey("drop", *[f"text {line}" for line in lines], "drop", *[f"text {line}" for line in lines])
            self.refuse("table", f"text {reason}")

    def test_a_draft_that_is_too_large(self):
        for line in TABLE[:2]:
            self.obey(f"text {line}")
        for _ in range(101):
            self.obey("text " + " " * 195)
        # 12 + 8 + 101 * 196 characters and 79 in the last line are 20000, with its newline.
        self.obey("text " + " " * (20000 - 12 - 8 - 101 * 196 - 1))
        self.assertEqual(self.obey("table"), ["table 0"])
        for line in TABLE[:2]:
            self.obey(f"text {line}")
        for _ in range(101):
            self.obey("text " + " " * 195)
        self.obey("text " + " " * (20000 - 12 - 8 - 101 * 196))
        self.refuse("table", "large")

    def test_a_book(self):
        self.assertIsNone(self.desk.book())
        self.assertEqual(self.obey(*draft(BOOK, "book")), ["book 4"])
        book = self.desk.book()
        self.assertIsInstance(book, Book)
        self.assertEqual(book.blocks, [("head", "ab"), ("par", "a b"), ("break",), ("note", 7, "ba")])
        self.assertEqual(self.obey("text x"), ["lines 1"])
        book.blocks.clear()
        self.assertEqual(len(self.desk.book().blocks), 4)

    def test_drafts_that_are_no_books(self):
        for lines, reason in [
            ([], "1 1 end"), ([""], "1 1 line"), (["para x"], "1 1 line"), (["par a", "par"], "2 4 expected"), (["break "], "1 6 expected"),
            (["item 4 a"], "1 6 number"), (["par a", "", "par b"], "2 1 line"), (["par a  b"], "1 7 text"),
        ]:
            self.obey("drop", *[f"text {line}" for line in lines])
            self.refuse("book", f"text {reason}")

    def test_the_table_and_the_book_are_kept_when_a_draft_is_refused(self):
        self.obey(*FULL, "lay", "text x")
        self.refuse("table", "text 1 1 line")
        self.refuse("book", "text 1 1 line")
        self.assertEqual(self.obey("back"), ["same"])


class ShapeTest(DeskCase):
    def test_shapes(self):
        for line in ["shape 8 4 2", "shape 8 3 1", "shape 40 30 50"]:
            self.assertEqual(self.obey(line), ["shape"])

    def test_numbers(self):
        self.obey(*FULL, "lay")
        for word in ["08", "008", "100", "8.", "-8", "+8", "a", "1a", "8,", "0x8", "00", "1_0"]:
            for line in [f"shape {word} 4 2", f"shape 8 {word} 2", f"shape 8 4 {word}"]:
                self.refuse(line, "number")

    def test_shapes_that_are_none(self):
        self.obey(*FULL, "lay")
        for line in ["shape 7 4 2", "shape 41 4 2", "shape 8 2 2", "shape 8 31 2", "shape 8 4 51", "shape 8 4 0", "shape 0 4 2", "shape 99 99 99"]:
            self.refuse(line, "shape")
        # The numbers go first.
        self.refuse("shape 7 4 02", "number")

    def test_the_marks(self):
        self.obey(*draft(TABLE, "table"))
        self.obey(*draft(["head a", "par ab", "item 1 a", "item 2 b", "item 3 a", "note 12 b", "par " + "a" * 8, "par aaaaaaa bb", "break"], "book"))
        self.obey("shape 8 30 1", "lay")
        self.assertEqual(self.desk.volumes(), [[((1,), (
            (60, 1), (61, 1, 3), (62, 1, 1), (62, 2, 3), (62, 3, 1), (63, 2, 3, 0, 3), (61, 1, 1, 1, 1, 1, 1, 1), (57, 1),
            (61, 1, 1, 1, 1, 1, 1, 1), (58, 3, 3), (59,), (56, 2),
        ), ())]])


class TableTest(DeskCase):
    def test_without_a_table(self):
        self.obey("shape 8 4 2", *draft(BOOK, "book"))
        for line in ["write a", "write", "texts", "texts 1", "texts x", "readable", "lay", "renew", "back"]:
            self.refuse(line, "table")

    def test_write(self):
        self.obey(*draft(rules('0 "a" = 1 to 0', '0 "b" = 12 - to 0', '0 " " = - to 0', '0 "ab" = 123456 to 0 ahead "^"', '0 "c" = 3 to 1'), "table"))
        for rest, answer in [
            ("a", "1"), ("b", "12 -"), ("ab", "123456"), ("aab", "1 1 12 -"), (" a", "- 1"), ("a ", "1 -"), ("a  b", "1 - - 12 -"), ("ac", "1 3"),
        ]:
            self.assertEqual(self.obey(f"write {rest}"), [answer])
        self.assertEqual(self.obey("write"), [""])
        self.assertEqual(self.obey("write "), [""])
        self.assertEqual(self.obey("write  "), ["-"])
        for rest in ["ca", "x", "A", "^", "$", "a^", '"a"', "a~"]:
            self.refuse(f"write {rest}", "writing")

    def test_texts(self):
        self.obey(*draft(rules('0 "a" = 1 to 0', '0 "b" = 1 1 to 0 behind "a"', '0 "b" = 2 to 0', '0 " " = - to 0'), "table"))
        for cells, answer in [
            ("1", ['"a"']), ("1 1 1", ['"aaa"', '"ba"']), ("1 2", ['"ab"']), ("3", []), ("1 3", []), ("- -", ['"  "']), ("123456", []),
            ("1 1 1 1", ['"aaaa"', '"aba"', '"baa"']),
        ]:
            self.assertEqual(self.obey(f"texts {cells}"), answer)
        self.assertEqual(self.obey("texts"), ['""'])
        for cells in ["0", "7", "21", "11", "a", "1 a", "1-", "1 21 1", "--"]:
            self.refuse(f"texts {cells}", "cell")

    def test_quoted_texts(self):
        self.obey(*draft(['signs "\\"\\\\a"', "modes 1", 'rule 0 "\\"\\\\" = 1 to 0', 'rule 0 "a" = 1 to 0'], "table"))
        self.assertEqual(self.obey("texts 1"), ['"\\"\\\\"', '"a"'])
        self.assertEqual(self.obey("write \"\\a"), ["1 1"])
        self.assertEqual(self.obey("readable"), ["no", "1", '"\\"\\\\"', '"a"'])

    def test_too_many_texts(self):
        signs = "abcdefghijklmnopqrstuvwxyz"
        for many in (22, 23):
            lines = [f'signs "{signs}"', "modes 1", *[f'rule 0 "{sign}" = 1 to 0' for sign in signs[:many]]]
            self.assertEqual(self.obey(*draft(lines, "table")), [f"table {many}"])
            if many == 22:
                self.assertEqual(len(self.obey("texts 1 1")), 484)
        self.refuse("texts 1 1", "large")
        # The words are read first.
        self.refuse("texts 1 1 x", "cell")

    def test_readable(self):
        self.assertEqual(self.obey(*draft(TABLE, "table"), "readable"), ["yes"])
        lines = rules('0 "a" = 1 to 0', '0 "b" = 1 1 to 0 behind "a"', '0 "b" = 2 to 0')
        self.assertEqual(self.obey(*draft(lines, "table"), "readable"), ["no", "1 1 1", '"aaa"', '"ba"'])

    def test_readable_too_large(self):
        signs = "abcdefghijklmnopqrstuvwxyzABCDEFGHIJKLMNOPQRSTUVWXYZ01234567"
        # 1 + 64 * 64 pairs that are kept.
        lines = [f'signs "{signs}"', "modes 1", *['rule 0 "a" = 1 to 0'] * 64]
        self.obey(*draft(lines, "table"))
        self.refuse("readable", "large")
        self.assertEqual(self.obey(*draft(lines[:-1], "table"), "readable"), ["yes"])


class VolumesTest(DeskCase):
    def test_lay(self):
        self.assertIsNone(self.desk.volumes())
        self.assertEqual(self.obey(*FULL, "lay"), ["sheets 2 in 1"])
        table, book = read_table("\n".join(TABLE)), read_book("\n".join(BOOK))
        self.assertEqual(self.desk.volumes(), lay_out(Shape(8, 4, 2, MARKS), table, book))
        self.assertEqual(self.obey("shape 8 4 1", "lay"), ["sheets 2 in 2"])

    def test_what_is_lacking_for_lay_and_renew(self):
        parts = {"table": draft(TABLE, "table"), "shape": ["shape 8 4 2"], "book": draft(BOOK, "book")}
        for kept, lay, renew in [
            ([], "table", "table"), (["shape", "book"], "table", "table"), (["table"], "shape", "shape"), (["table", "book"], "shape", "shape"),
            (["table", "shape"], "book", "book"), (["book"], "table", "table"), (["table", "shape", "book"], None, "volumes"),
        ]:
            self.desk = Desk()
            for name in kept:
                self.obey(*parts[name])
            if lay is not None:
                self.refuse("lay", lay)
            self.refuse("renew", renew)

    def test_texts_without_a_writing(self):
        self.obey(*draft(TABLE, "table"), "shape 8 4 2", *draft(["par a", "break", "par ax", "head x"], "book"))
        self.refuse("lay", "writing 2")
        self.obey(*draft(["par a"], "book"), "lay", *draft(["head x"], "book"))
        self.refuse("renew", "writing 0")
        self.refuse("lay", "writing 0")
        self.assertEqual(self.obey("back"), ["other"])

    def test_no_layout(self):
        self.obey(*draft(TABLE, "table"), "shape 8 4 2", *draft(["par a", "head a", "head b", "head a", "par b"], "book"))
        self.refuse("lay", "layout 1")
        # No writing goes first.
        self.obey(*draft(["par a", "head a", "head b", "head a", "par bx"], "book"))
        self.refuse("lay", "writing 4")

    def test_renew(self):
        self.obey(*draft(TABLE, "table"), "shape 8 3 2")
        self.obey(*draft(["par a", "par b", "par ab", "par ba", "par aa", "par bb"], "book"))
        self.assertEqual(self.obey("lay"), ["sheets 2 in 1"])
        self.assertEqual(self.obey("renew"), ["new 0 of 2"])
        self.obey(*draft(["par a", "par b", "par ab", "par ba", "par a a", "par aa", "par bb"], "book"))
        self.assertEqual(self.obey("renew"), ["new 1 of 3", "1.1"])
        self.assertEqual([len(volume) for volume in self.desk.volumes()], [2, 1])
        self.obey(*draft(["head b"] * 5 + ["par a", "par b", "par ab", "par ba", "par a a", "par aa", "par bb"], "book"))
        self.assertEqual(self.obey("renew"), ["new 2 of 5", "0.1 0.2"])
        self.assertEqual(self.obey("back"), ["same"])
        # What lay refuses can be renewed.
        self.refuse("lay", "layout 0")
        self.obey(*draft(["par bbb"], "book"))
        self.assertEqual(self.obey("renew"), ["new 1 of 1", "1"])

    def test_what_forgets_the_volumes(self):
        self.obey(*FULL, "lay", *draft(TABLE, "table"))
        self.assertIsNone(self.desk.volumes())
        for line in ["renew", "back", "sheet 0 0", "fall 0 0"]:
            self.refuse(line, "volumes")
        self.obey("lay", "shape 8 4 2")
        self.assertIsNone(self.desk.volumes())
        # A book does not.
        self.obey("lay", *draft(["par b"], "book"))
        self.assertEqual(self.obey("back"), ["other"])

    def test_back(self):
        self.refuse("back", "table")
        self.obey(*draft(TABLE, "table"))
        self.refuse("back", "shape")
        self.obey("shape 8 4 2")
        self.refuse("back", "volumes")
        self.obey(*draft(BOOK, "book"))
        self.refuse("back", "volumes")
        self.assertEqual(self.obey("lay", "back"), ["same"])
        self.obey(*draft(BOOK[:-1], "book"))
        self.assertEqual(self.obey("back"), ["other"])
        self.obey(*draft(BOOK, "book"))
        self.assertEqual(self.obey("back"), ["same"])

    def test_back_at_a_fault(self):
        self.obey(*draft(TABLE, "table"), "shape 8 3 2", *draft(["par " + "a" * 40, "par " + "a" * 40], "book"))
        self.assertEqual(self.obey("lay"), ["sheets 3 in 2"])
        self.assertEqual(self.obey("fall 0 0"), ["sheets 2 in 2"])
        self.assertEqual(self.obey("back"), ["fault 0.0.0.0 begin"])
        self.assertEqual(self.obey("fall 0 0"), ["sheets 1 in 1"])
        self.assertEqual(self.obey("fall 0 0"), ["sheets 0 in 0"])
        self.assertEqual(self.obey("back"), ["fault empty"])
        self.assertEqual(self.desk.volumes(), [])
        # There are volumes, though without sheets.
        self.refuse("sheet 0 0", "number")
        self.assertEqual(self.obey("renew"), ["new 3 of 3", "1 2 3"])
        self.assertEqual(self.obey("back"), ["same"])

    def test_back_with_a_table_that_is_not_readable(self):
        lines = rules('0 "a" = 1 to 0', '0 "b" = 1 to 0')
        self.obey(*draft(lines, "table"), "shape 8 4 2", *draft(["break", "par a"], "book"), "lay")
        self.assertEqual(self.obey("back"), ["fault 0.1.0.0 several"])
        self.obey(*draft(["par " + "a" * 9], "book"), "lay")
        self.assertEqual(self.obey("back"), ["large"])

    def test_sheet(self):
        self.refuse("sheet 0 0", "shape")
        self.obey(*draft(TABLE, "table"), *draft(BOOK, "book"))
        self.refuse("sheet 0 0", "shape")
        self.obey("shape 8 4 2")
        self.refuse("sheet 0 0", "volumes")
        self.obey("shape 8 4 1", "lay")
        self.assertEqual(self.obey("sheet 0 0"), ["label 1", "front", "3456 1 12", "13456 1 - 12", "12456", "456 2"])
        self.assertEqual(self.obey("sheet 1 0"), ["label 2", "front", "123456 4 - 12 1", "456 12"])
        for words in ["0 1", "2 0", "1 1", "9999 0", "0 9999", "00 0", "0 00", "01 0", "a 0", "0 a", "-1 0", "0 -1", "10000 0", "0 00000", "+0 0"]:
            self.refuse(f"sheet {words}", "number")
            self.refuse(f"fall {words}", "number")

    def test_more_than_a_thousand_volumes(self):
        self.obey(*draft(TABLE, "table"), *draft(["par " + "a" * 190] * 200, "book"), "shape 8 3 1")
        self.assertEqual(self.obey("lay"), ["sheets 1400 in 1400"])
        self.assertEqual(self.obey("sheet 999 0")[0], "label 1000")
        self.assertEqual(self.obey("sheet 1399 0")[0], "label 1400")
        self.assertEqual(self.obey("sheet 1400 0"), ["refused number"])
        self.assertEqual(self.obey("fall 1000 0"), ["sheets 1399 in 1399"])
        self.assertEqual(self.obey("sheet 1000 0")[0], "label 1002")

    def test_a_sheet_with_a_back_and_a_longer_label(self):
        self.obey(*draft(TABLE, "table"), "shape 8 3 2", *draft(["par a", "par b", "par ab"], "book"), "lay")
        self.assertEqual(self.obey("sheet 0 0"), ["label 1", "front", "13456 1", "13456 12", "456 2", "back", "13456 1 12", "456 2"])
        self.obey(*draft(["par bb", "par a", "par b", "par ab"], "book"))
        self.assertEqual(self.obey("renew"), ["new 1 of 2", "0.1"])
        self.assertEqual(self.obey("sheet 0 0"), ["label 0.1", "front", "13456 12 12", "456 1 124 2"])

    def test_fall(self):
        self.refuse("fall 0 0", "volumes")
        self.obey(*draft(TABLE, "table"), "shape 8 3 2", *draft([f"par {'a' * k}" for k in range(1, 7)] * 3, "book"))
        self.assertEqual(self.obey("lay"), ["sheets 5 in 3"])
        volumes = self.desk.volumes()
        self.assertEqual(self.obey("fall 1 1"), ["sheets 4 in 3"])
        self.assertEqual(self.desk.volumes(), [volumes[0], volumes[1][:1], volumes[2]])
        self.refuse("fall 1 1", "number")
        self.assertEqual(self.obey("fall 1 0"), ["sheets 3 in 2"])
        self.assertEqual(self.desk.volumes(), [volumes[0], volumes[2]])
        self.assertEqual(self.obey("fall 0 0"), ["sheets 2 in 2"])
        self.assertEqual(self.obey("back"), ["other"])
        # What fell is pressed anew, between those that are there.
        self.assertEqual(self.obey("renew"), ["new 3 of 5", "0.1 2.1 2.2"])
        self.assertEqual(self.obey("back"), ["same"])

    def test_what_is_returned_is_changed(self):
        self.obey(*FULL, "shape 8 4 1", "lay")
        before = self.state()
        volumes = self.desk.volumes()
        volumes[0].clear()
        volumes.clear()
        self.desk.book().blocks.append(("break",))
        self.desk.lines().append("x")
        self.desk.obey("sheet 0 0").clear()
        self.desk.obey("write a").append("x")
        self.assertEqual(self.state(), before)
        self.assertEqual(self.obey("back"), ["same"])

    def test_one_behind_the_other(self):
        self.obey(*draft(TABLE, "table"), "shape 9 4 2", *draft(["head a", "par " + "ab " * 20 + "a", "par b"], "book"))
        self.assertEqual(self.obey("lay", "back"), ["same"])
        count = sum(len(volume) for volume in self.desk.volumes())
        self.assertEqual(self.obey("fall 0 1"), [f"sheets {count - 1} in {len(self.desk.volumes())}"])
        self.assertEqual(self.obey("renew", "back"), ["same"])
        self.obey(*draft(["head a", "par " + "ab " * 20 + "b", "par b"], "book"))
        self.assertEqual(self.obey("back"), ["other"])
        self.assertEqual(self.obey("renew", "back"), ["same"])
        self.assertEqual(self.obey("sheet 0 0")[:2], ["label 1", "front"])
        self.obey("fall 0 0", "fall 0 0")
        self.assertEqual(self.obey("renew", "back"), ["same"])


class FactsTest(DeskCase):
    def test_lines_by_chance(self):
        laid, same = 0, 0
        tables = [
            TABLE, rules('0 "a" = 1 to 0', '0 "b" = 1 2 to 0', '0 " " = - to 0'), rules('0 "a" = 1 to 0', '0 "b" = 1 to 1', '1 "a" = 2 to 0'),
            rules('0 "a" = 1 to 0', '0 "b" = 2 to 0', '0 " " = - to 0', '0 "ab" = 1 2 3 to 0', '0 "c" = 2 to 0 ahead "a"'),
        ]
        for seed in range(150):
            chance = random.Random(seed)
            self.desk = Desk()
            lines = []
            for _ in range(40):
                texts = [" ".join("".join(chance.choices("ab", k=chance.randint(1, 5))) for _ in range(chance.randint(1, 5))) for _ in range(3)]
                book = [chance.choice([f"par {text}", f"head {text}", f"item 2 {text}", f"note 12 {text}", "break"]) for text in texts]
                lines.extend(chance.choice([
                    draft(chance.choice(tables), "table"), draft(book, "book"), draft(book, "book"), ["drop"], ["text  x"],
                    [f"shape {chance.randint(6, 12)} {chance.randint(2, 6)} {chance.randint(1, 3)}"], ["lay"], ["lay"], ["renew"], ["renew"],
                    [f"fall {chance.randint(0, 1)} {chance.randint(0, 2)}"], ["back"], ["readable"], [f"write {texts[0]}"], ["what"],
                    [f"sheet {chance.randint(0, 1)} {chance.randint(0, 2)}"], ["texts 1 12 - 1"],
                ]))
            for line in lines:
                volumes = self.desk.volumes()
                answer = self.desk.obey(line)
                self.assertTrue(all(isinstance(part, str) and part.isascii() for part in answer))
                if answer[:1] and answer[0].startswith("refused "):
                    self.assertEqual((len(answer), self.desk.volumes()), (1, volumes))
                elif line in ("lay", "renew"):
                    laid += 1
                    told = self.desk.obey("back")
                    if self.desk.obey("readable") == ["yes"]:
                        self.assertEqual(told, ["same"])
                        same += 1
                elif line.startswith("write"):
                    self.assertIn(f'"{line[6:]}"', self.desk.obey(f"texts {answer[0]}") if answer[0] else self.desk.obey("texts"))
            # Another desk answers the same.
            self.assertEqual(answers_of(self.desk.lines()), answers_of(self.desk.lines()))
            other = Desk()
            for line in self.desk.lines():
                other.obey(line)
            self.assertEqual(other.volumes(), self.desk.volumes())
        self.assertGreater(same, 60)
        self.assertGreater(laid, same + 5)


if __name__ == "__main__":
    unittest.main()

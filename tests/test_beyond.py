"""Numbers, lengths and depths somewhat beyond their limits raise no error but those that a point names (point 4)."""

import random
import unittest

from sixdot import errors
from sixdot.back import form_fault, is_layout, read_back, rows_back
from sixdot.change import accepts_bounds, labels_between, least_size, make_bounds, renew
from sixdot.compare import accepts_cross_paper, agree, compare, useless_rules, without_rules
from sixdot.errors import NoLayout, NoText, NoWriting, SeveralTexts, TextError, TooLarge, Unreadable
from sixdot.lexer import pieces
from sixdot.lines import accepts_line_prices, break_row, cost_of, is_broken, make_line_prices, unbroken
from sixdot.pages import accepts_prices, make_prices, may_end, page_ends
from sixdot.places import farthest, line_ends, places, rows_of, sheet_ends
from sixdot.potentials import accepts_numbers, make_numbers, shows_best
from sixdot.reading import Reader, can_end, next_spots, read_row, texts_of
from sixdot.report import label_word, row_line, sheet_lines
from sixdot.shape import Marks, Shape, block_mark, figures, label_row, number_line
from sixdot.table import Book, Rule, Table, cell_of, dots_of, is_book, is_let_by, same_table
from sixdot.unique import accepts_paper, decide, is_hopeful, next_pairs
from sixdot.volumes import bind, book_lines, lay_out, sheets_needed
from sixdot.writer import write_book, write_cell, write_table
from sixdot.writing import best_writing, fitting, is_way, writings

GREAT = 10 ** 5000
START = ((-1, 0), (-1, 0), (0, ""))
WAYS = ("first", "joined", "on")
STOP = (59,)


def made_shape(width=8, height=4, size=2):
    marks = Marks([60], [61], [[62, 1], [62, 2], [62, 3]], [63], [59], [58], [57], [56])
    return Shape(width, height, size, marks)


def plain_table():
    rules = [Rule(0, "a", [1], 0), Rule(0, "b", [2], 0), Rule(0, " ", [0], 0), Rule(0, "ab", [3], 0, behind="$ ")]
    return Table("ab ", 1, rules)


def odd_rules():
    """Returns rules of which each is beyond a limit."""
    return [
        Rule(0, "", [1], 0), Rule(0, "", [1], 0, ahead="^", behind="$"), Rule(0, "", [], 0), Rule(0, "a", [], 0),
        Rule(0, "a", [], 0, behind="a"), Rule(0, "ababab", [1], 0), Rule(0, "b", [1, 2, 3, 4, 5, 6], 0), Rule(0, "a", [64], 0),
        Rule(0, "a", [-1, 700], 0), Rule(0, "a", [1], 3), Rule(3, "b", [2], 0), Rule(0, "a", [1], -1), Rule(-1, "b", [2], 0),
        Rule(0, "c", [1], 0), Rule(0, "a", [1], 0, ahead=""), Rule(0, "a", [1], 0, behind=""), Rule(0, "a", [1], 0, ahead="aa^^"),
        Rule(0, "a", [1], 0, behind="aa$$"), Rule(10 ** 9, "a", [1], 10 ** 9),
    ]


def odd_tables():
    """Returns tables of which each is beyond some limits."""
    plain = plain_table().rules
    found = [Table("ab ", 1, [rule]) for rule in odd_rules()]
    found += [Table("ab ", 1, plain + [rule]) for rule in odd_rules()]
    found += [Table("ab ", modes, plain + odd_rules()[9:13]) for modes in (-1, 0, 1, 2, 4, 5, 9)]
    found += [Table("ab ", 0, []), Table("", 1, []), Table("", 0, plain), Table("aab", 1, plain), Table("^a$", 1, plain)]
    found += [Table("ab ", 1, [*plain, *[Rule(0, "ba", [4, at % 64, at // 64], 0) for at in range(100)]])]
    found += [Table("".join(map(chr, range(32, 127))), 5, plain), Table("ab ", 1, odd_rules())]
    return found


def tables_by_chance(chance, many):
    for _ in range(many):
        rules = []
        for _ in range(chance.randint(0, 6)):
            text = "".join(chance.choices("ab ", k=chance.choice([1, 1, 1, 1, 2, 2, 0, 5])))
            cells = chance.choices([0, 1, 2, 2, 64, -1], k=chance.choice([1, 1, 1, 2, 2, 0, 5]))
            ahead = chance.choice([None, None, None, "", "^", "a^", "aa"])
            behind = chance.choice([None, None, None, "", "$", "b$", "bb"])
            rules.append(Rule(chance.choice([0, 0, 0, 1, 2, -1]), text, cells, chance.choice([0, 0, 0, 1, 2, -1, 7]), ahead=ahead, behind=behind))
        yield Table(chance.choice(["ab", "ab ", "", "aab"]), chance.choice([1, 1, 2, 2, 0, -1, 5]), rules)


def odd_books():
    """Returns books of which each is beyond a limit."""
    found = [Book([])]
    for depth in (-100, -4, -3, -2, -1, 0, 4, 5, 6, 9, 100, GREAT, -GREAT):
        found.append(Book([("item", depth, "ab"), ("par", "a b")]))
    for label in (-1000, -1, 0, 100, 999, 1000, 9999, 10 ** 5, 10 ** 6, 10 ** 7, 10 ** 40, -10 ** 40):
        found += [Book([("note", label, "ab ab ba")]), Book([("head", "a"), ("note", label, "abababababa"), ("break",)])]
    for text in ("", " ", "  ", " a", "a ", "a  b", "ab" * 201, "ab " * 160):
        found += [Book([("par", text)]), Book([("head", text), ("par", "ab"), ("break",), ("item", 1, text)])]
    found += [Book([("par", "")] * 3), Book([("break",)] * 5), Book([("head", "ab")]), Book([("par", "a b")] * 201)]
    return found


def odd_spots():
    return [(number, read) for number in (-2, -1, 0, 3, 4, 5, 90) for read in (-1, 0, 1, 2, 3, 7)]


class BeyondTest(unittest.TestCase):
    def named(self, allowed, function, *arguments):
        """Returns what a call returns, or None if it raises one of these errors, which a point names for it."""
        try:
            return function(*arguments)
        except allowed:
            return None


class ErrorsTest(BeyondTest):
    def test_great_numbers_have_messages(self):
        for error in (
            errors.TextError(GREAT, -GREAT, "sign"), errors.NoWriting(GREAT), errors.NoLayout(GREAT), errors.NoText(GREAT),
            errors.StrangeSheet(GREAT), errors.NotMissing(-GREAT), errors.Unreadable((GREAT, 0, -GREAT), "lines"),
        ):
            self.assertIn("0" * 5000, str(error))

    def test_messages_of_small_numbers(self):
        self.assertIn("-12", str(errors.NoWriting(-12)))
        self.assertIn("3.0.1", str(errors.Unreadable((3, 0, 1), "lines")))

    def test_pieces_of_a_great_line(self):
        for number in (GREAT, -GREAT, 0, -1):
            with self.assertRaises(TextError) as caught:
                pieces("a\t", number)
            self.assertEqual((caught.exception.line, caught.exception.column), (number, 2))


class TablesTest(BeyondTest):
    def test_cells_and_dots(self):
        for number in (-100, -1, 64, 65, 127, 1000, GREAT):
            self.assertIsInstance(write_cell(number), str)
            self.assertLessEqual(set(dots_of(number)), {1, 2, 3, 4, 5, 6})
        for dots in ([0], [7], [-1, 8], [1, 7]):
            self.assertEqual(cell_of(dots), 1 if 1 in dots else 0)

    def test_tables(self):
        for table in odd_tables():
            self.assertFalse(is_let_by(table) and table.modes not in range(1, 5))
            self.assertTrue(same_table(table, table))
            self.assertEqual(write_table(table).count("\n"), 2 + len(table.rules))
        self.assertIn(f"1{'0' * 5000}", write_table(Table("a", GREAT, [Rule(-GREAT, "a", [1], GREAT)])))

    def test_books(self):
        for book in odd_books():
            self.assertEqual(write_book(book).count("\n"), len(book.blocks))
            self.assertIn(is_book(book), (True, False))


class WritingTest(BeyondTest):
    def both(self, table, text):
        """Looks at all that is asked of the writings of a text."""
        best = best_writing(table, text)
        found = self.named(TooLarge, writings, table, text)
        if found is not None:
            self.assertEqual(None if best is None else best[0], min(found, key=lambda row: (len(row), row), default=None))
        if best is not None:
            self.assertTrue(is_way(table, text, best[1]))
        numbers = make_numbers(table, text)
        self.assertTrue(accepts_numbers(table, text, numbers))
        self.assertIn(shows_best(table, text, numbers, [] if best is None else best[1]), (True, False))

    def test_tables(self):
        for table in odd_tables():
            for text in ("", "a", "ab", "aab", "ababab", "abababab", "b a", "abc"):
                self.both(table, text)

    def test_by_chance(self):
        chance = random.Random(14)
        for table in tables_by_chance(chance, 300):
            self.both(table, "".join(chance.choices("ab ", k=chance.randint(0, 6))))

    def test_a_rule_without_signs_or_cells_is_not_used(self):
        table = Table("ab", 1, [Rule(0, "", [1], 0), Rule(0, "a", [], 0), Rule(0, "a", [1], 0)])
        self.assertEqual(fitting(table, "a", 0, 0), [2])
        self.assertEqual(fitting(table, "a", 1, 0), [])
        self.assertEqual((best_writing(table, "a"), writings(table, "aa")), (([1], [2]), [[1, 1]]))
        self.assertEqual([is_way(table, "a", way) for way in ([0], [1], [0, 2], [2])], [False, False, False, True])
        self.assertEqual((texts_of(table, [1]), texts_of(table, [])), (["a"], [""]))
        self.assertEqual(useless_rules(table), [0, 1])

    def test_modes_beyond_those_of_the_table(self):
        table = Table("ab", 1, [Rule(0, "a", [1], 3), Rule(3, "b", [2], -1)])
        self.assertEqual([best_writing(table, text) for text in ("a", "ab", "aba")], [([1], [0]), ([1, 2], [0, 1]), None])
        self.assertEqual((writings(table, "ab"), texts_of(table, [1, 2])), ([[1, 2]], ["ab"]))

    def test_places_and_modes(self):
        for place in (-100, -4, -3, -2, -1, 3, 4, 100):
            for table in odd_tables():
                self.assertEqual(fitting(table, "aba", place, 0), [])
        self.assertEqual([fitting(plain_table(), "aba", 0, mode) for mode in (-1, 1, 4, 100)], [[]] * 4)

    def test_ways_with_other_numbers(self):
        for way in ([-1], [4], [100], [0, -4], [GREAT]):
            self.assertFalse(is_way(plain_table(), "a", way))
            self.assertFalse(shows_best(plain_table(), "a", make_numbers(plain_table(), "a"), way))

    def test_numbers_of_other_lengths(self):
        for table in odd_tables():
            for numbers in ([], [[]], [[], [], []], [[0], [0], [0]], [[0, 0]] * 3, [[0] * 5] * 3, [[-9] * 7] * 4):
                self.assertIn(accepts_numbers(table, "ab", numbers), (True, False))
                self.assertIn(shows_best(table, "ab", numbers, [0, 1]), (True, False))

    def test_a_text_of_900_signs(self):
        table, text = plain_table(), "ab " * 300
        self.assertEqual(len(best_writing(table, text)[0]), 600)
        self.assertTrue(shows_best(table, text, make_numbers(table, text), best_writing(table, text)[1]))


class ReadingTest(BeyondTest):
    def all_of(self, table, other, row):
        """Looks at all that is asked of tables and a row."""
        self.named(TooLarge, texts_of, table, row)
        self.named((NoText, SeveralTexts, TooLarge), read_row, table, row)
        self.named(TooLarge, agree, table, other, row)
        reader = Reader(table)
        self.assertEqual([reader.step(cell) for cell in row][-1:], [len(reader.spots())] if row else [])
        self.assertIn(reader.is_done(), (True, False))
        answer = self.named(TooLarge, decide, table)
        if answer is not None and answer[0] == "readable":
            self.assertTrue(accepts_paper(table, answer[1]))
        answer = self.named(TooLarge, compare, table, other)
        if answer is not None and answer[0] == "same":
            self.assertTrue(accepts_cross_paper(table, other, answer[1]))
        useless = useless_rules(table)
        self.assertEqual(compare(table, without_rules(table, useless))[0] == "same", decide(table)[0] == "readable")

    def test_tables(self):
        for table in odd_tables():
            for row in ([], [1], [1, 2], [-1, 700], [64], [1, 2, 3, 4, 5, 6], [GREAT]):
                self.all_of(table, plain_table(), row)

    def test_by_chance(self):
        chance = random.Random(18)
        for table in tables_by_chance(chance, 250):
            other = next(tables_by_chance(chance, 1))
            self.all_of(table, other, chance.choices([0, 1, 2, 64, -1], k=chance.randint(0, 5)))

    def test_best_writings_are_read_back(self):
        chance = random.Random(20)
        for table in tables_by_chance(chance, 300):
            text = "".join(chance.choices("ab ", k=chance.randint(0, 5)))
            best = best_writing(table, text)
            if best is not None:
                self.assertIn(text, texts_of(table, best[0]))

    def test_spots_that_are_none(self):
        tables = [plain_table(), Table("ab", 1, odd_rules()), Table("ab", 1, [])]
        for table in tables:
            for spot in odd_spots():
                has_rule = 0 <= spot[0] < len(table.rules) and table.rules[spot[0]].text != ""
                is_spot = spot == (-1, 0) or (has_rule and 1 <= spot[1] <= len(table.rules[spot[0]].cells))
                for cell in (-1, 0, 1, 64):
                    self.assertTrue(next_spots(table, spot, cell) == [] or is_spot)
                self.assertTrue(is_spot or not can_end(table, spot))
                for other in odd_spots():
                    for lead in ((0, ""), (1, "a"), (1, ""), (2, "b"), (-1, ""), None):
                        self.assertTrue(next_pairs(table, (spot, other), lead) == [] or is_spot)
                    self.assertTrue(is_spot or not (is_hopeful(table, (spot, other)) or is_hopeful(table, (other, spot))))
                self.assertTrue(is_spot or not accepts_paper(table, ([START], [(spot, (-1, 0))])))

    def test_numbers_of_rules(self):
        self.assertEqual(len(without_rules(plain_table(), [-1, 4, 100]).rules), 4)


class LinesTest(BeyondTest):
    def test_marks_and_rows(self):
        chance = random.Random(26)
        for many in (0, 1, 6, 7, 8, 9, 10, 30):
            for cells in (0, 1, 2, 3, 9, 40):
                shape, mark, row = made_shape(), tuple([60] + [1] * 40)[:many], chance.choices([0, 1, 2], k=cells)
                lines = break_row(shape, mark, row)
                self.assertEqual(unbroken(shape, lines, mark), row)
                self.assertEqual(is_broken(shape, mark, row, lines), many < 8 or cells == 0)
                prices = make_line_prices(shape, mark, row)
                self.assertTrue(accepts_line_prices(shape, mark, row, prices))
                self.assertEqual([cost_of(shape, lines)], [pair[0] for pair in prices[:1]] or [0])
                self.assertIn(accepts_line_prices(shape, mark, row, [(0, 0)] * cells), (True, False))

    def test_a_line_without_room_has_one_cell(self):
        self.assertEqual(break_row(made_shape(), (63,) + (1,) * 8, [1, 2, 3])[0], (63,) + (1,) * 8 + (1,))

    def test_a_row_of_3000_cells(self):
        row = [1, 2, 0] * 1000
        self.assertTrue(is_broken(made_shape(), (61,), row, break_row(made_shape(), (61,), row)))

    def test_no_lines(self):
        self.assertEqual((unbroken(made_shape(), [], (61,)), cost_of(made_shape(), [])), ([], 0))


class ShapeTest(BeyondTest):
    def test_numbers_below_0(self):
        for number in (-1, -7, -12, -409, -GREAT):
            self.assertEqual(figures(number), figures(-number))
        self.assertEqual(figures(-12), [2, 3])
        self.assertEqual([figures(number) for number in (0, 7, 10, 409)], [[1], [8], [2, 1], [5, 1, 10]])

    def test_labels(self):
        self.assertEqual((label_row(()), label_row((-1,)), label_row((3, -2, 1))), ([], [2], [4, 11, 3, 11, 2]))
        self.assertEqual(number_line(made_shape(), ()), (56,))
        self.assertEqual((label_word(()), label_word((-1, 0, -GREAT))), ("", f"-1.0.-1{'0' * 5000}"))
        self.assertEqual(sheet_lines(((-1,), (), ())), ["label -1", "front"])
        self.assertEqual(row_line([64, -1]), f"{write_cell(64)} {write_cell(-1)}")

    def test_depths(self):
        marks = [block_mark(made_shape(), ("item", depth, "ab")) for depth in (-GREAT, -9, -1, 0, 1, 2, 3, 4, 5, 100, GREAT)]
        self.assertEqual(marks, [(62, 1)] * 5 + [(62, 2)] + [(62, 3)] * 5)

    def test_labels_of_notes(self):
        for label, row in ((-1, (2,)), (0, (1,)), (100, (2, 1, 1)), (-10 ** 9, (2,) + (1,) * 9)):
            self.assertEqual(block_mark(made_shape(), ("note", label, "ab")), (63, *row, 0))


class PagesTest(BeyondTest):
    blocks = [("head", "a"), ("par", "b"), ("break",), ("par", "c")]

    def test_numbers_of_lines(self):
        for at in (-100, -2, -1, 0, 11, 12, 100):
            self.assertIs(may_end(self.blocks, [1, 4, 1, 4], at), False)
        self.assertIs(may_end(self.blocks, [1, 4, 1, 4], 10), True)
        self.assertEqual([may_end([], [], at) for at in (-1, 1)], [False, False])

    def test_counts_of_lines_and_heights(self):
        chance = random.Random(34)
        for _ in range(500):
            blocks = chance.choices(self.blocks, k=chance.randint(0, 5))
            lines = chance.choices([-3, -1, 0, 1, 2, 3, 5, 9], k=len(blocks))
            height = chance.choice([-1, 0, 1, 2, 3, 4, 31, 100])
            ends = self.named(NoLayout, page_ends, height, blocks, lines)
            prices = self.named(NoLayout, make_prices, height, blocks, lines)
            self.assertEqual(ends is None, prices is None)
            if ends is not None:
                self.assertEqual(ends[-1:], [sum(many for many in lines if many > 0)] if ends else [])
                self.assertTrue(accepts_prices(height, blocks, lines, ends, prices))
                for other in ([], [0], [-1], [100], ends + ends, ends[:-1]):
                    self.assertIn(accepts_prices(height, blocks, lines, other, prices), (True, False))
            self.assertIn(may_end(blocks, lines, chance.randint(-5, 50)), (True, False))

    def test_no_lines(self):
        for height in (-1, 0, 1, 2, 3, 31):
            self.assertEqual((page_ends(height, [], []), make_prices(height, [], [])), ([], [0]))
            self.assertEqual(page_ends(height, self.blocks, [0, 0, 0, 0]), [])

    def test_a_block_with_fewer_lines_than_none_has_none(self):
        blocks = [("par", "a"), ("break",), ("par", "b"), ("par", "c")]
        self.assertEqual(page_ends(9, blocks, [-3, 1, 1, 1]), page_ends(9, blocks, [0, 1, 1, 1]))
        self.assertEqual(page_ends(9, blocks, [-3, 1, 1, 1]), [1, 3])
        self.assertEqual([may_end(blocks, [-3, 1, 1, 1], at) for at in range(5)], [False, True, True, True, False])

    def test_a_height_of_2(self):
        self.assertEqual(page_ends(2, [("par", "a")] * 3, [1, 1, 1]), [1, 2, 3])
        with self.assertRaises(NoLayout):
            page_ends(2, self.blocks, [1, 1, 1, 1])


class VolumesTest(BeyondTest):
    def test_pages_without_lines(self):
        one, two = (61, 1), (61, 2)
        for pages, many in (
            ([], 0), ([[]], 1), ([[], []], 1), ([[], [], []], 2), ([[one], [], [two]], 2), ([[STOP], [], [one]], 2),
            ([[], [STOP], [one]], 2), ([[one], [], [STOP], []], 3), ([[one] * 9, [], [two] * 9], 2),
        ):
            self.assertEqual(sheets_needed(made_shape(), pages), many)
            volumes = bind(made_shape(), pages, [(number + 1,) for number in range(many)])
            sheets = [sheet for volume in volumes for sheet in volume]
            self.assertEqual([label for label, _, _ in sheets], [(number + 1,) for number in range(many)])
            lines = [line for _, front, back in sheets for page in (front, back) for line in page[:-1]]
            self.assertEqual(lines, [line for page in pages for line in page])

    def test_a_break_at_the_end_of_a_page_begins_a_front(self):
        self.assertEqual(bind(made_shape(), [[], [STOP], [(61, 1)]], [(1,), (2,)]), [
            [((1,), ((56, 2),), (STOP, (56, 2))), ((2,), ((61, 1), (56, 3)), ())],
        ])
        self.assertEqual(sheets_needed(made_shape(), [[STOP], []]), 2)

    def test_labels(self):
        for label in ((), (-1,), (0,), (0, -5), (GREAT,), (-GREAT, 1)):
            volumes = bind(made_shape(), [[(61, 1)]], [label])
            self.assertEqual(volumes, [[(label, ((61, 1), number_line(made_shape(), label)), ())]])
            self.assertIn(form_fault(made_shape(), volumes), (None, ((0, 0), "label")))
        for labels in ([], [(1,)], [(1,), (2,), (3,)]):
            self.assertLessEqual(len(bind(made_shape(), [[(61, 1)], [(61, 1)], [(61, 1)]], labels)), 1)

    def test_books(self):
        for book in odd_books():
            for shape in (made_shape(), made_shape(12, 3, 1), made_shape(40, 30, 50)):
                for table in (plain_table(), Table("ab ", 0, []), Table("ab ", 1, odd_rules())):
                    self.named(NoWriting, book_lines, shape, table, book)
                    volumes = self.named((NoWriting, NoLayout), lay_out, shape, table, book)
                    if volumes is not None:
                        self.named(TooLarge, is_layout, shape, table, volumes)
                        self.named((Unreadable, TooLarge), read_back, shape, table, volumes)

    def test_items_of_other_depths_are_read_back(self):
        for depth, told in ((-1, 1), (0, 1), (4, 3), (5, 3)):
            volumes = lay_out(made_shape(), plain_table(), Book([("item", depth, "ab")]))
            self.assertEqual(read_back(made_shape(), plain_table(), volumes).blocks, [("item", told, "ab")])

    def test_more_blocks_and_signs(self):
        book = Book([("par", "ab " * 150 + "a")] * 205)
        volumes = lay_out(made_shape(20, 10, 5), plain_table(), book)
        self.assertEqual(len(rows_back(made_shape(20, 10, 5), volumes)), 205)
        self.assertFalse(is_layout(made_shape(20, 10, 5), plain_table(), volumes))


class ChangeTest(BeyondTest):
    def old_volumes(self, shape):
        """Returns old volumes, some of which are beyond limits."""
        good = lay_out(shape, plain_table(), Book([("par", "ab"), ("item", 3, "ab ab"), ("par", "a b")]))
        front = ((61, 3), (56, 2))
        odd = [[], [((), (), ())], [((), ((56,),), ((56,),))], [((-1,), ((61, 3), (56, 2)), ()), ((1,), front * 9, front)],
               [((1,), (STOP, STOP, (56, 2)), ()), ((2,), ((61, 3, *[1] * 30), (56, 3)), ((),))]]
        return [[], [[]], good, good * 3, odd, good + odd]

    def test_renewals(self):
        for shape in (made_shape(), made_shape(12, 3, 1)):
            for book in odd_books():
                if len(book.blocks) > 50:
                    continue
                for volumes in self.old_volumes(shape):
                    size = self.named(NoWriting, least_size, shape, plain_table(), volumes, book)
                    renewed = self.named(NoWriting, renew, shape, plain_table(), volumes, book)
                    if renewed is not None:
                        self.assertEqual(len(renewed[1]), size)
                        lines = [line for volume in renewed[0] for _, front, back in volume for line in (*front[:-1], *back[:-1])]
                        self.assertGreaterEqual(len(lines), len(book.blocks))

    def test_bounds(self):
        shape = made_shape()
        for book in odd_books():
            if sum(len(str(block[-1])) for block in book.blocks) > 200:
                continue
            for volumes in self.old_volumes(shape):
                bounds = self.named(NoWriting, make_bounds, shape, plain_table(), volumes, book)
                if bounds is not None:
                    self.assertTrue(accepts_bounds(shape, plain_table(), volumes, book, bounds))
                    self.assertEqual(bounds[0, (0, 0, "first")], least_size(shape, plain_table(), volumes, book))
                    for change in (-10 ** 9, GREAT):
                        changed = {**bounds, (0, (0, 0, "first")): change}
                        self.assertFalse(accepts_bounds(shape, plain_table(), volumes, book, changed) and change < 0)
                    self.assertFalse(accepts_bounds(shape, plain_table(), volumes, book, {**bounds, (-1, (-1, 99, "on")): 0}))

    def test_tables(self):
        for table in odd_tables():
            for book in (Book([("par", "ab")]), Book([("item", 4, "aab")]), Book([("note", 10 ** 6, "b a")])):
                self.named(NoWriting, renew, made_shape(), table, [], book)
                self.named(NoWriting, make_bounds, made_shape(), table, [], book)
                self.named(NoWriting, rows_of, table, book)

    def test_labels_between(self):
        self.assertEqual([labels_between((1,), None, many) for many in (-1, 0)], [[], []])
        for before in (None, (), (-1,), (0,), (1, 0)):
            for after in (None, (), (-1,), (0,), (0, 0)):
                self.assertEqual(len(labels_between(before, after, 3)), 3)

    def test_places_that_are_none(self):
        shape = made_shape()
        good = lay_out(shape, plain_table(), Book([("par", "aab"), ("par", "a b")]))[0][0]
        for book in (Book([]), Book([("par", "aab"), ("break",), ("item", 4, "a b")]), Book([("note", 10 ** 8, "ab"), ("par", "")])):
            rows = rows_of(plain_table(), book)
            known = places(rows, book)
            for place in [(block, cell, way) for block in range(-2, 6) for cell in range(-2, 8) for way in WAYS]:
                for line in ((), (57,), (58,), STOP, (61,), (61, 1), (57, 1), (57, -1, 64), (61, 1, 3), (1,) * 20):
                    self.assertLessEqual(set(line_ends(shape, book, rows, place, line)), set(known))
                for sheet in (good, ((), (), ()), ((-1,), (), ()), ((1,), ((61, 1), (56, 2)), ((56, 2),)), ((1,), (STOP, (56, 2)), ())):
                    self.assertLessEqual(set(sheet_ends(shape, book, rows, place, sheet)), set(known))
                for end in [*known, (-1, -1, "first"), (9, 9, "on"), (0, -3, "joined")]:
                    self.assertIn(farthest(shape, book, rows, place, end), [None, *known])


if __name__ == "__main__":
    unittest.main()

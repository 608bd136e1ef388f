"""Points 33 and 38 to 42, and the interface of sixdot/back.py."""

import random
import unittest

import plain
from sixdot.back import form_fault, is_layout, read_back, rows_back
from sixdot.errors import TooLarge, Unreadable
from sixdot.shape import Marks, Shape
from sixdot.table import Book, Rule, Table, is_book
from sixdot.unique import decide
from sixdot.writing import writings

MARKS = Marks([60], [61], [[62, 1], [62, 2], [62, 3]], [63], [59], [58], [57], [56])
SHAPE = Shape(8, 5, 2, MARKS)
# Readable, and a text can have several writings.
TABLE = Table("abc ", 1, [
    Rule(0, "a", [1], 0), Rule(0, "b", [2], 0), Rule(0, " ", [0], 0), Rule(0, "ab", [3], 0), Rule(0, "c", [4, 0], 0),
])


def sheet(label, front, back=None):
    """Returns a sheet with these lines of the book, and the number lines that are due."""
    number = (56, *plain.pressed_label(label))
    return label, (*front, number), () if back is None else (*back, number)


class FormTest(unittest.TestCase):
    def setUp(self):
        self.volumes = [
            [sheet((0, 1), [(60, 1), (61, 2), (58, 2)], [(57, 1), (62, 1, 1)]), sheet((1,), [(63, 4, 1, 0, 1), (59,)])],
            [sheet((1, 1), [(61, 1), (57, 0), (58, 0)], [(62, 3, 0), (63, 2, 0, 5), (59,)])],
        ]

    def fault(self, volumes, shape=SHAPE):
        found = form_fault(shape, volumes)
        self.assertEqual(found, plain.form_fault(shape, volumes))
        if found is not None:
            self.assertIs(is_layout(shape, TABLE, volumes), False)
            for call in (lambda: rows_back(shape, volumes), lambda: read_back(shape, TABLE, volumes)):
                with self.assertRaises(Unreadable) as caught:
                    call()
                self.assertEqual((caught.exception.place, caught.exception.reason), found)
        return found

    def with_line(self, place, *lines):
        """Returns the volumes with these lines instead of that at the place."""
        v, s, p, k = place
        volumes = [list(volume) for volume in self.volumes]
        parts = list(volumes[v][s])
        parts[1 + p] = parts[1 + p][:k] + lines + parts[1 + p][k + 1:]
        volumes[v][s] = tuple(parts)
        return volumes

    def line_fault(self, place, *lines):
        """Returns the reason at the place, if this is the first fault with the lines instead of that there."""
        found = self.fault(self.with_line(place, *lines))
        if found is None:
            return None
        self.assertEqual(found[0], place)
        return found[1]

    def test_without_a_fault(self):
        self.assertIsNone(self.fault(self.volumes))

    def test_empty(self):
        self.assertEqual(self.fault([]), ((), "empty"))

    def test_size(self):
        self.assertEqual(self.fault([[]]), ((0,), "size"))
        self.assertEqual(self.fault(self.volumes + [[]]), ((2,), "size"))
        self.assertEqual(self.fault([self.volumes[0], [], self.volumes[1]]), ((1,), "size"))
        self.assertEqual(self.fault([self.volumes[0] + self.volumes[1]]), ((0,), "size"))
        self.assertIsNone(self.fault([self.volumes[0] + self.volumes[1]], Shape(8, 5, 3, MARKS)))

    def test_labels_that_are_none(self):
        line = [(61, 1)]
        for label in [(0,), (1, 0), (-1,), (1, -1), (-1, 1), (1, -1, 1)]:
            wrong = (label, (*line, (56, 1)), ())
            self.assertEqual(self.fault([[wrong]]), ((0, 0), "label"))
            self.assertEqual(self.fault([[sheet((1,), line)], [wrong]]), ((1, 0), "label"))
        self.assertEqual(self.fault([[((), (*line, (56,)), ())]]), ((0, 0), "label"))
        self.assertEqual(self.fault([[sheet((1,), line), ((), (*line, (56,)), ())]]), ((0, 1), "label"))

    def test_labels_that_do_not_ascend(self):
        line = [(61, 1)]
        for before, label in [((1,), (1,)), ((2,), (1,)), ((1, 1), (1,)), ((1, 2), (1, 1)), ((1, 1), (1, 0, 7)), ((10,), (9, 9))]:
            self.assertEqual(self.fault([[sheet(before, line), sheet(label, line)]]), ((0, 1), "label"))
            self.assertEqual(self.fault([[sheet(before, line)], [sheet(label, line)]]), ((1, 0), "label"))
        for before, label in [((1,), (2,)), ((1,), (1, 1)), ((1,), (1, 0, 1)), ((1, 0, 7), (1, 1)), ((9, 9), (10,)), ((0, 1), (1,))]:
            self.assertIsNone(self.fault([[sheet(before, line)], [sheet(label, line)]]))

    def test_numbers_of_lines(self):
        lines = [(61, 1)] * 4
        self.assertIsNone(self.fault([[sheet((1,), lines, lines)]]))
        self.assertEqual(self.fault([[sheet((1,), lines + lines[:1])]]), ((0, 0, 0), "lines"))
        self.assertEqual(self.fault([[sheet((1,), lines, lines + lines[:1])]]), ((0, 0, 1), "lines"))
        self.assertEqual(self.fault([[sheet((1,), [])]]), ((0, 0, 0), "lines"))
        self.assertEqual(self.fault([[sheet((1,), lines, [])]]), ((0, 0, 1), "lines"))
        self.assertEqual(self.fault([[((1,), (), ())]]), ((0, 0, 0), "lines"))
        self.assertEqual(self.fault([[((1,), (), sheet((1,), lines)[1])]]), ((0, 0, 0), "lines"))
        self.assertEqual(self.fault([[sheet((1,), lines)], [((2,), ((61, 1),), ())]]), ((1, 0, 0), "lines"))

    def test_cells(self):
        for line in [(60, 64), (60, -1), (-1, 5), (64,), (60, 1, 1, 1, 1, 1, 1, 1, 1, 100), (59, 64), (10 ** 30,)]:
            self.assertEqual(self.line_fault((0, 0, 0, 0), line), "cell")
        self.assertEqual(self.line_fault((1, 0, 1, 1), (63, 64)), "cell")
        self.assertIsNone(self.line_fault((0, 0, 0, 0), (60, 63, 0)))

    def test_marks(self):
        for line in [(), (1,), (56, 1), (62,), (62, 4), (62, 0, 1), (0, 60), (56, 3), (1,) * 20]:
            self.assertEqual(self.line_fault((0, 0, 0, 1), line), "mark")

    def test_wide_lines(self):
        for begin in [(60,), (61,), (62, 2), (63, 5, 0), (58,), (57,)]:
            self.assertIsNone(self.line_fault((0, 0, 0, 1), begin + (5,) * (8 - len(begin))))
            self.assertEqual(self.line_fault((0, 0, 0, 1), begin + (5,) * (9 - len(begin))), "wide")
        self.assertEqual(self.line_fault((0, 1, 0, 1), (59,) + (5,) * 8), "wide")
        self.assertEqual(self.line_fault((0, 0, 0, 1), (63,) + (5,) * 8), "wide")
        # The number line may be wider.
        self.assertIsNone(self.fault([[sheet((100000, 2, 1), [(61, 1)])]]))

    def test_stops(self):
        self.assertEqual(self.line_fault((0, 1, 0, 1), (59, 0)), "stop")
        self.assertEqual(self.line_fault((0, 1, 0, 0), (59,)), "stop")
        self.assertEqual(self.line_fault((0, 0, 0, 1), (59,)), "stop")
        self.assertEqual(self.line_fault((0, 1, 0, 1), (59,), (59,)), "stop")
        self.assertEqual(self.line_fault((0, 1, 0, 1), (59,), (61, 1)), "stop")
        self.assertIsNone(self.line_fault((0, 0, 1, 1), (59,)))
        self.assertIsNone(self.fault([[sheet((1,), [(59,)], [(59,)])]]))

    def test_notes(self):
        for cells in [(), (0,), (0, 5), (1, 0, 5), (5,), (5, 5), (11, 0, 5), (5, 11, 0, 5), (1, 5, 0, 5), (2, 1, 1, 0, 5), (61, 0, 5)]:
            self.assertEqual(self.line_fault((0, 0, 0, 1), (63, *cells)), "note")
        for cells in [(2, 0, 5), (10, 0, 0), (2, 1, 0, 5), (10, 10, 0, 5), (10, 1, 0, 0, 0)]:
            self.assertIsNone(self.line_fault((0, 0, 0, 1), (63, *cells)))

    def test_beginnings_of_the_book(self):
        for mark in (58, 57):
            self.assertEqual(self.line_fault((0, 0, 0, 0), (mark, 1)), "begin")
            self.assertEqual(self.line_fault((0, 0, 0, 0), (mark,)), "begin")
            self.assertEqual(self.line_fault((1, 0, 0, 0), (mark, 1)), "begin")
            # Behind a block on the page, the side or the sheet before.
            self.assertIsNone(self.line_fault((0, 0, 1, 0), (mark, 1)))
            self.assertIsNone(self.line_fault((0, 1, 0, 0), (mark, 1)))
            self.assertEqual(self.fault([[sheet((1,), [(59,)], [(mark, 1)])]]), ((0, 0, 1, 0), "begin"))

    def test_short_lines(self):
        for line in [(60,), (61,), (62, 1), (62, 3), (63, 4, 0), (63, 4, 1, 0), (58,), (57,)]:
            self.assertEqual(self.line_fault((0, 0, 0, 1), line), "short")
            self.assertIsNone(self.line_fault((0, 0, 0, 1), line + (0,)))

    def test_number_lines(self):
        for line in [(), (56,), (56, 1), (56, 1, 11, 3), (56, 1, 11, 2, 0), (55, 1, 11, 2), (1, 11, 2), (61, 1), (64,), (59,)]:
            self.assertEqual(self.line_fault((0, 0, 0, 3), line), "number")
            self.assertEqual(self.line_fault((0, 0, 1, 2), line), "number")
        self.assertIsNone(self.line_fault((0, 0, 0, 3), (56, 1, 11, 2)))

    def test_two_things_wrong_at_once(self):
        # In a line: cell, mark, wide, then what belongs to the mark.
        for line, reason in [
            ((64, 1), "cell"), ((1,) * 9 + (64,), "cell"), ((1,) * 9, "mark"), ((63,) + (1,) * 9, "wide"), ((59,) * 9, "wide"),
            ((63,), "note"), ((58,), "begin"), ((57,) + (0,) * 8, "wide"), ((59, 1), "stop"),
        ]:
            self.assertEqual(self.line_fault((0, 0, 0, 0), line), reason)
        # Each thing before what is in it, and before what comes later.
        wrong = ((0,), ((61,), (56, 1)), ((64,),))
        self.assertEqual(self.fault([[wrong, wrong, wrong]]), ((0,), "size"))
        self.assertEqual(self.fault([[wrong], []]), ((0, 0), "label"))
        self.assertEqual(self.fault([[((1,), ((61,), (56, 1)), ((64,),))]]), ((0, 0, 0, 0), "short"))
        self.assertEqual(self.fault([[((1,), ((61, 1), (56, 1)), ((64,),))]]), ((0, 0, 0, 1), "number"))
        self.assertEqual(self.fault([[((1,), ((61, 1), (56, 2)), ((64,),))]]), ((0, 0, 1), "lines"))
        self.assertEqual(self.fault([[((1,), ((61,),) * 6, ())]]), ((0, 0, 0), "lines"))
        self.assertEqual(self.fault([[sheet((1,), [(61, 1)])], []]), ((1,), "size"))

    def test_great_numbers_in_labels(self):
        great, row = 10 ** 4999, (2, *[1] * 4999)
        line = (61, 1)
        right = ((great,), (line, (56, *row)), ())
        self.assertIsNone(form_fault(SHAPE, [[right]]))
        self.assertEqual(rows_back(SHAPE, [[right]]), [(("par",), [1], (0, 0, 0, 0))])
        self.assertEqual(read_back(SHAPE, TABLE, [[right]]).blocks, [("par", "a")])
        self.assertIs(is_layout(SHAPE, TABLE, [[right]]), True)
        for wrong in [(56, 2), (56, *row, 1), (56, *row[:-1]), (56, *row[:-1], 2), ()]:
            volumes = [[((great,), (line, wrong), ())]]
            self.assertEqual(form_fault(SHAPE, volumes), ((0, 0, 0, 1), "number"))
            self.assertIs(is_layout(SHAPE, TABLE, volumes), False)
            with self.assertRaises(Unreadable):
                read_back(SHAPE, TABLE, volumes)
        back = ((great, great), (line, (56, *row, 11, *row)), (line, (56, *row)))
        self.assertEqual(form_fault(SHAPE, [[right, back]]), ((0, 1, 1, 1), "number"))
        self.assertEqual(form_fault(SHAPE, [[right, ((great - 1,), (line, (56, *[10] * 4999)), ())]]), ((0, 1), "label"))

    def test_marks_of_two_cells(self):
        marks = Marks([60, 0], [61, 0], [[62, 1], [62, 2], [62, 3]], [63, 0], [59, 0], [58, 0], [58, 1], [56, 0])
        shape = Shape(8, 5, 2, marks)
        front = ((60, 0, 1), (63, 0, 2, 0, 1), (58, 1, 1), (59, 0), (56, 0, 2))
        self.assertIsNone(self.fault([[((1,), front, ())]], shape))
        self.assertEqual(rows_back(shape, [[((1,), front, ())]])[1], (("note", 1), [1, 1], (0, 0, 0, 1)))
        self.assertEqual(self.fault([[((1,), ((60, 1), (56, 0, 2)), ())]], shape), ((0, 0, 0, 0), "mark"))
        self.assertEqual(self.fault([[((1,), ((60, 0), (56, 0, 2)), ())]], shape), ((0, 0, 0, 0), "short"))

    def test_volumes_by_chance(self):
        reasons = {}
        for seed in range(3000):
            chance = random.Random(seed)
            volumes = [list(volume) for volume in self.volumes]
            for _ in range(chance.choice([1, 1, 2])):
                spoil(chance, volumes)
            found = self.fault(volumes)
            if found is not None:
                reasons[found[1]] = reasons.get(found[1], 0) + 1
        self.assertEqual(sorted(reasons), [
            "begin", "cell", "label", "lines", "mark", "note", "number", "short", "size", "stop", "wide",
        ])


def spoil(chance, volumes):
    """Changes something in volumes."""
    volume = chance.choice(volumes)
    kind = chance.randrange(9)
    if not volume or kind == 0:
        volumes.insert(chance.randint(0, len(volumes)), volumes.pop())
        return
    at = chance.randrange(len(volume))
    if kind == 1:
        volume.insert(chance.randint(0, len(volume)), volume.pop(at))
        return
    if kind == 2:
        volume.append(volume.pop(at) if chance.random() < 0.5 else volume[at])
        return
    parts = list(volume[at])
    if kind == 3:
        parts[0] = chance.choice([(), parts[0][:-1], parts[0] + (0,), (2,), (-1,)])
    else:
        side = chance.choice([1, 2])
        page = list(parts[side])
        if page and chance.random() < 0.9:
            k = chance.randrange(len(page))
            if kind == 4:
                page.pop(k)
            elif kind == 5:
                page.insert(k, page[chance.randrange(len(page))])
            else:
                line = list(page[k])
                line.insert(chance.randint(0, len(line)), chance.choice([0, 0, 1, 2, 56, 57, 58, 59, 63, 64, -1]))
                page[k] = tuple(line[:chance.choice([1, 2, 3, 20, 20, 20])] * chance.choice([1, 1, 1, 3]))
        parts[side] = tuple(page)
    volume[at] = tuple(parts)


class RowsTest(unittest.TestCase):
    def test_each_kind_of_block(self):
        volumes = [
            [sheet((1,), [(60, 1, 2), (61, 3), (58, 4), (57, 5)], [(62, 1, 6), (62, 2, 7), (62, 3, 8), (59,)])],
            [sheet((2,), [(63, 10, 10, 0, 0, 9), (58, 0), (57, 0, 59), (63, 2, 0, 60)], [(58, 61)]), sheet((3,), [(57, 1)])],
        ]
        self.assertEqual(rows_back(SHAPE, volumes), [
            (("head",), [1, 2], (0, 0, 0, 0)), (("par",), [3, 0, 4, 5], (0, 0, 0, 1)), (("item", 1), [6], (0, 0, 1, 0)),
            (("item", 2), [7], (0, 0, 1, 1)), (("item", 3), [8], (0, 0, 1, 2)), (("break",), [], (0, 0, 1, 3)),
            (("note", 99), [0, 9, 0, 0, 0, 59], (1, 0, 0, 0)), (("note", 1), [60, 0, 61, 1], (1, 0, 0, 3)),
        ])

    def test_what_is_returned_is_new(self):
        volumes = [[sheet((1,), [(60, 1, 2)])]]
        rows_back(SHAPE, volumes)[0][1].clear()
        self.assertEqual(rows_back(SHAPE, volumes), [(("head",), [1, 2], (0, 0, 0, 0))])
        self.assertEqual(volumes, [[sheet((1,), [(60, 1, 2)])]])


class TextsTest(unittest.TestCase):
    def check(self, table, lines, place, reason, *, is_let_by=False):
        """Looks at a sheet with these lines, which is at fault."""
        volumes = [[sheet((1,), lines)]]
        self.assertIsNone(form_fault(SHAPE, volumes))
        with self.assertRaises(Unreadable) as caught:
            read_back(SHAPE, table, volumes)
        self.assertEqual((caught.exception.place, caught.exception.reason), (place, reason))
        self.assertIs(is_layout(SHAPE, table, volumes), is_let_by)

    def test_rows_without_a_text(self):
        self.check(TABLE, [(61, 9)], (0, 0, 0, 0), "text")
        self.check(TABLE, [(60, 1), (61, 1), (58, 4), (61, 2)], (0, 0, 0, 1), "text")
        self.check(Table("a", 1, []), [(60, 1)], (0, 0, 0, 0), "text")

    def test_texts_that_a_book_may_not_have(self):
        for row in [(0,), (0, 1), (1, 0), (1, 0, 0, 1), (4, 0, 0), (0, 4, 0)]:
            self.check(TABLE, [(60, 2), (61, *row)], (0, 0, 0, 1), "text")
        self.check(TABLE, [(60, 1), (61, 1), (58, 1), (58, 0)], (0, 0, 0, 1), "text")

    def test_texts_that_are_too_long(self):
        table = Table("ab", 1, [Rule(0, "aaaa", [1], 0), Rule(0, "b", [2], 0)])
        shape = Shape(40, 30, 2, MARKS)
        for row, is_text in [([1] * 100, True), ([1] * 100 + [2], False), ([2] * 400, True), ([2] * 401, False)]:
            lines = [(61, *row[:39])] + [(57, *row[at:at + 39]) for at in range(39, len(row), 39)]
            volumes = [[sheet((1,), lines)]]
            self.assertIs(is_layout(shape, table, volumes), is_text)
            if is_text:
                self.assertEqual(len(read_back(shape, table, volumes).blocks[0][1]), 400)
            else:
                with self.assertRaises(Unreadable) as caught:
                    read_back(shape, table, volumes)
                self.assertEqual((caught.exception.place, caught.exception.reason), ((0, 0, 0, 0), "text"))

    def test_several_texts_of_which_none_one_or_two_may_stand_in_a_book(self):
        table = Table("ab ", 1, [
            Rule(0, "a", [1], 0), Rule(0, "b", [1], 0), Rule(0, " ", [2], 0), Rule(0, "a", [2], 0), Rule(0, "a ", [3], 0),
            Rule(0, " b", [3], 0), Rule(0, "ab", [4], 0), Rule(0, "a ", [4], 0),
        ])
        self.assertEqual(decide(table)[0], "same")
        self.check(table, [(61, 3)], (0, 0, 0, 0), "text")
        self.check(table, [(61, 4), (61, 1)], (0, 0, 0, 1), "several", is_let_by=True)
        self.check(table, [(61, 4), (61, 1), (61, 3)], (0, 0, 0, 1), "several")
        self.check(table, [(61, 4), (61, 3), (61, 1)], (0, 0, 0, 1), "text")
        volumes = [[sheet((1,), [(61, 4), (60, 2)])]]
        self.assertEqual(read_back(SHAPE, table, volumes).blocks, [("par", "ab"), ("head", "a")])
        self.assertIs(is_layout(SHAPE, table, volumes), True)

    def test_500_and_501_texts(self):
        rules = [Rule(0, sign, [1], 0) for sign in "ab"] + [Rule(0, sign, [2], 0) for sign in "abcde"]
        table = Table("abcdef ", 2, rules + [Rule(0, "f", [3], 0), Rule(0, "    ", [1, 2, 1, 2], 1), Rule(1, "f", [4], 1)])
        self.check(table, [(61, 1, 2, 1, 2, 2)], (0, 0, 0, 0), "several", is_let_by=True)
        # The last text, with spaces at its beginning, may not stand in a book, but is one more.
        rules = rules + [Rule(0, "    ", [1, 2, 1, 2], 1), Rule(1, "f", [2], 1)]
        for function in (is_layout, read_back):
            with self.assertRaises(TooLarge) as caught:
                function(SHAPE, Table("abcdef ", 2, rules), [[sheet((1,), [(61, 1, 2, 1, 2, 2)])]])
            self.assertEqual(caught.exception.limit, "texts")

    def test_the_first_one_is_due(self):
        table = Table("ab", 1, [Rule(0, "a", [1], 0), Rule(0, "b", [1], 0), Rule(0, "a", [2], 0)])
        many = (1, 1, 1, 1, 1, 1, 1)
        # One that is too large: behind a fault it is not looked at.
        lines = [(61, *many), (57, *many)]
        with self.assertRaises(TooLarge):
            read_back(SHAPE, table, [[sheet((1,), [(61, 2)] + lines + [(61, 9)])]])
        with self.assertRaises(TooLarge):
            is_layout(SHAPE, table, [[sheet((1,), [(61, 1)] + lines + [(61, 9)])]])
        self.check(table, [(61, 9)] + lines, (0, 0, 0, 0), "text")
        with self.assertRaises(Unreadable) as caught:
            read_back(SHAPE, table, [[sheet((1,), [(61, 1)] + lines)]])
        self.assertEqual(caught.exception.reason, "several")
        # A fault of form goes before all faults of texts.
        self.assertIs(is_layout(SHAPE, table, [[sheet((1,), [(61, 9)] + lines + [(61,)])]]), False)
        with self.assertRaises(Unreadable) as caught:
            read_back(SHAPE, table, [[sheet((1,), lines + [(61,)])]])
        self.assertEqual(caught.exception.reason, "short")

    def test_200_and_201_blocks(self):
        shape = Shape(8, 30, 50, MARKS)
        for last in ((61, 1), (61, 9), (59,)):
            lines = [(61, 1), (60, 2)] * 100
            pages = [lines[at:at + 25] for at in range(0, 200, 25)]
            volumes = [[sheet((k + 1,), page) for k, page in enumerate(pages)]]
            self.assertEqual(len(read_back(shape, TABLE, volumes).blocks), 200)
            self.assertIs(is_layout(shape, TABLE, volumes), True)
            volumes = [volumes[0] + [sheet((9,), [(57, 1), last, (59,)])]]
            if last == (59,):
                volumes = [volumes[0][:-1] + [sheet((9,), [(57, 1), last])]]
            self.assertIsNone(form_fault(shape, volumes))
            self.assertIs(is_layout(shape, TABLE, volumes), False)
            with self.assertRaises(Unreadable) as caught:
                read_back(shape, TABLE, volumes)
            self.assertEqual((caught.exception.place, caught.exception.reason), ((0, 8, 0, 1), "blocks"))

    def test_a_fault_ahead_of_the_201st_block(self):
        shape = Shape(8, 30, 50, MARKS)
        lines = [(61, 1)] * 199 + [(61, 9), (61, 1)]
        volumes = [[sheet((at + 1,), lines[at:at + 25]) for at in range(0, 201, 25)]]
        with self.assertRaises(Unreadable) as caught:
            read_back(shape, TABLE, volumes)
        self.assertEqual((caught.exception.place, caught.exception.reason), ((0, 7, 0, 24), "text"))


class LayoutTest(unittest.TestCase):
    def made_book(self, chance):
        blocks = []
        for _ in range(chance.randint(1, 6)):
            words = ["".join(chance.choices("abc", k=chance.randint(1, 6))) for _ in range(chance.randint(1, 4))]
            blocks.append(chance.choice([
                ("head", words[0]), ("par", " ".join(words)), ("item", chance.randint(1, 3), " ".join(words)),
                ("note", chance.randint(1, 99), words[0]), ("break",),
            ]))
        return Book(blocks)

    def test_whoever_made_a_layout(self):
        self.assertEqual(decide(TABLE)[0], "readable")
        several = 0
        for seed in range(400):
            chance = random.Random(seed)
            shape = Shape(chance.randint(8, 12), chance.randint(3, 6), chance.randint(1, 3), MARKS)
            book = self.made_book(chance)
            self.assertTrue(is_book(book))
            several += any(len(writings(TABLE, block[-1])) > 1 for block in book.blocks if len(block) > 1)
            volumes = plain.made_layout(chance, shape, TABLE, book)
            self.assertIsNone(form_fault(shape, volumes))
            self.assertIsNone(plain.form_fault(shape, volumes))
            self.assertIs(is_layout(shape, TABLE, volumes), True)
            read = read_back(shape, TABLE, volumes)
            self.assertIsInstance(read, Book)
            self.assertEqual(read.blocks, book.blocks)
        self.assertGreater(several, 100)

    def test_whoever_made_a_layout_with_a_table_that_is_not_readable(self):
        table = Table("abc ", 1, TABLE.rules + [Rule(0, "c", [1, 2], 0)])
        self.assertEqual(decide(table)[0], "same")
        read, several = 0, 0
        for seed in range(300):
            chance = random.Random(seed)
            book = self.made_book(chance)
            volumes = plain.made_layout(chance, SHAPE, table, book)
            # It is a layout of the book; of which one it is read as cannot always be told.
            self.assertIs(is_layout(SHAPE, table, volumes), True)
            try:
                self.assertEqual(read_back(SHAPE, table, volumes).blocks, book.blocks)
                read += 1
            except Unreadable as error:
                self.assertEqual(error.reason, "several")
                several += 1
        self.assertGreater(min(read, several), 30)

    def test_what_is_passed_does_not_change(self):
        chance = random.Random(1)
        volumes = plain.made_layout(chance, SHAPE, TABLE, self.made_book(chance))
        kept = [list(volume) for volume in volumes]
        before = plain.state_of(TABLE)
        read_back(SHAPE, TABLE, volumes).blocks.clear()
        rows_back(SHAPE, volumes).clear()
        self.assertEqual(volumes, kept)
        self.assertEqual(plain.state_of(TABLE), before)
        self.assertTrue(read_back(SHAPE, TABLE, volumes).blocks)


if __name__ == "__main__":
    unittest.main()

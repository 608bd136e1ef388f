"""Points 29 and 30, the beginnings of point 31, and the interface of sixdot/shape.py."""

import random
import unittest

from sixdot.errors import InvalidShape
from sixdot.shape import Marks, Shape, block_mark, figures, label_row, number_line

NAMES = ["head", "par", "note", "stop", "on", "joined", "number"]


def rows():
    """Returns new lists for the arguments of marks that may be, by their names."""
    return {
        "head": [60], "par": [61, 0], "depths": [[62, 1], [62, 2], [62, 3]], "note": [63], "stop": [59, 59], "on": [58],
        "joined": [57], "number": [56],
    }


def made(**more):
    return Shape(20, 10, 5, Marks(**{**rows(), **more}))


class ShapeTest(unittest.TestCase):
    def refuse(self, **more):
        with self.subTest(more), self.assertRaises(InvalidShape):
            made(**more)

    def test_numbers_at_their_limits(self):
        for width, height, size in [(8, 3, 1), (40, 30, 50), (8, 30, 50), (40, 3, 1), (9, 4, 2)]:
            shape = Shape(width, height, size, Marks(**rows()))
            self.assertEqual((shape.width, shape.height, shape.size), (width, height, size))

    def test_numbers_past_their_limits(self):
        for width, height, size in [(7, 10, 5), (41, 10, 5), (20, 2, 5), (20, 31, 5), (20, 10, 0), (20, 10, 51),
                                    (0, 10, 5), (-8, 10, 5), (20, -3, 5), (20, 10, -1), (10 ** 30, 10, 5)]:
            with self.subTest((width, height, size)), self.assertRaises(InvalidShape):
                Shape(width, height, size, Marks(**rows()))

    def test_the_attributes_are_tuples_and_a_list_of_tuples(self):
        marks = Marks([60], [61, 0], [[62, 1], [62, 2], [62, 3]], [63], [59, 59], [58], [57], [56])
        for told in (marks, Shape(8, 3, 1, marks).marks):
            self.assertIsInstance(told, Marks)
            for name in NAMES:
                self.assertEqual(getattr(told, name), tuple(rows()[name]))
                self.assertIs(getattr(told, name).__class__, tuple)
            self.assertEqual(told.depths, [(62, 1), (62, 2), (62, 3)])
            self.assertIs(told.depths.__class__, list)
            self.assertEqual({row.__class__ for row in told.depths}, {tuple})

    def test_marks_are_not_checked_before_a_shape_is_made(self):
        marks = Marks([], [0], [[]], [64], [-1], [1, 2, 3], [1], [1])
        self.assertEqual((marks.head, marks.depths), ((), [()]))
        with self.assertRaises(InvalidShape):
            Shape(20, 10, 5, marks)

    def test_what_was_passed_is_changed_afterwards(self):
        given = rows()
        marks = Marks(**given)
        shape = Shape(20, 10, 5, marks)
        given["head"][0] = 1
        given["depths"][0][0] = 1
        given["depths"].clear()
        for told in (marks, shape.marks):
            self.assertEqual((told.head, told.depths), ((60,), [(62, 1), (62, 2), (62, 3)]))
        marks.head = (1,)
        marks.depths[1] = (2,)
        marks.depths.append((3,))
        self.assertEqual((shape.marks.head, shape.marks.depths), ((60,), [(62, 1), (62, 2), (62, 3)]))
        shape.marks.depths.append((3,))
        self.assertEqual(marks.depths, [(62, 1), (2,), (62, 3), (3,)])

    def test_what_was_passed_does_not_change(self):
        given = rows()
        made(**given)
        self.assertEqual(given, rows())

    def test_each_mark_by_itself(self):
        for name in NAMES:
            for row in ([], [1, 2, 3], [0], [0, 1], [-1], [64], [1, -1], [1, 64], [10 ** 30]):
                self.refuse(**{name: row})
        for row in ([], [1, 2, 3], [0], [0, 1], [-1], [64], [1, -1], [1, 64]):
            for at in range(3):
                depths = rows()["depths"]
                depths[at] = row
                self.refuse(depths=depths)

    def test_cells_at_their_limits(self):
        shape = made(head=[1], par=[2, 63], depths=[[3, 0], [3, 63], [63, 0]], note=[4])
        self.assertEqual(shape.marks.depths, [(3, 0), (3, 63), (63, 0)])

    def test_depths(self):
        for depths in ([], [[62, 1]], [[62, 1], [62, 2]], [[62, 1], [62, 2], [62, 3], [62, 4]]):
            self.refuse(depths=depths)

    def test_one_that_stands_twice(self):
        for name in NAMES:
            for other in NAMES:
                if name != other:
                    self.refuse(**{name: rows()[other]})
            for at in range(3):
                self.refuse(**{name: rows()["depths"][at]})
        self.refuse(depths=[[62, 1], [62, 2], [62, 1]])
        self.refuse(depths=[[62, 1], [62, 1], [62, 2]])

    def test_one_that_is_the_beginning_of_another(self):
        for name in NAMES:
            self.refuse(**{name: [62]})
            for other in ("head", "note", "number"):
                if name != other:
                    self.refuse(**{name: rows()[other] + [5]})
        self.refuse(depths=[[62], [62, 2], [62, 3]])
        self.refuse(depths=[[62, 1], [62, 2], [60, 3]])
        self.refuse(on=[61], joined=[57])
        self.refuse(on=[58, 1], joined=[58])

    def test_rows_that_end_alike_are_apart(self):
        self.assertEqual(made(head=[61, 1], par=[61, 2], note=[1, 62]).marks.note, (1, 62))

    def test_on_and_joined_of_different_lengths(self):
        self.refuse(on=[58, 1])
        self.refuse(joined=[57, 1])
        self.assertEqual(made(on=[58, 1], joined=[58, 2]).marks.joined, (58, 2))


class RowsTest(unittest.TestCase):
    def test_numbers_of_one_digit(self):
        self.assertEqual([figures(number) for number in range(10)], [[number + 1] for number in range(10)])

    def test_numbers_of_several_digits(self):
        self.assertEqual([figures(number) for number in (10, 42, 99, 100, 2006)], [
            [2, 1], [5, 3], [10, 10], [2, 1, 1], [3, 1, 1, 7],
        ])
        self.assertEqual(figures(10 ** 30), [2] + [1] * 30)

    def test_great_numbers(self):
        # Greater ones than str takes.
        self.assertEqual(figures(10 ** 4299), [2] + [1] * 4299)
        self.assertEqual(figures(10 ** 4300), [2] + [1] * 4300)
        self.assertEqual(figures(10 ** 4300 - 1), [10] * 4300)
        self.assertEqual(figures(10 ** 4999), [2] + [1] * 4999)
        self.assertEqual(figures(7 * 10 ** 4999 + 12), [8] + [1] * 4997 + [2, 3])
        self.assertEqual(figures(10 ** 20000 + 10 ** 64), [2] + [1] * 19935 + [2] + [1] * 64)

    def test_numbers_of_all_lengths(self):
        chance = random.Random(30)
        for many in [*range(1, 200), 1000, 4299, 4300, 4301, 6000]:
            for digits in ([1] + [0] * (many - 1), [9] * many, [chance.randint(1, 9)] + chance.choices([0, 0, 0, 5, 9], k=many - 1)):
                number = 0
                for digit in digits:
                    number = 10 * number + digit
                self.assertEqual(figures(number), [digit + 1 for digit in digits])

    def test_labels_of_great_numbers(self):
        great = 10 ** 4999
        row = [2] + [1] * 4999
        self.assertEqual(label_row((great,)), row)
        self.assertEqual(label_row((3, great, 1)), [4, 11, *row, 11, 2])
        self.assertEqual(label_row((great, 0, great)), [*row, 11, 1, 11, *row])
        self.assertEqual(number_line(made(), (great, 2)), (56, *row, 11, 3))
        self.assertEqual(block_mark(made(), ("note", great, "a")), (63, *row, 0))

    def test_labels(self):
        for label, row in [
            ((1,), [2]), ((10,), [2, 1]), ((2, 0, 1), [3, 11, 1, 11, 2]), ((0, 1), [1, 11, 2]), ((0, 0, 12), [1, 11, 1, 11, 2, 3]),
            ((305, 7), [4, 1, 6, 11, 8]), ((1, 10, 100), [2, 11, 2, 1, 11, 2, 1, 1]),
        ]:
            self.assertEqual(label_row(label), row)
            self.assertIs(label_row(label).__class__, list)

    def test_the_lists_are_new(self):
        figures(10).clear()
        label_row((1, 2)).clear()
        self.assertEqual((figures(10), label_row((1, 2))), ([2, 1], [2, 11, 3]))


class BlockMarkTest(unittest.TestCase):
    def test_each_kind(self):
        shape = made()
        for block, mark in [
            (("head", "a"), (60,)), (("par", "a b"), (61, 0)), (("item", 1, "a"), (62, 1)), (("item", 2, "a"), (62, 2)),
            (("item", 3, "a"), (62, 3)), (("note", 1, "a"), (63, 2, 0)), (("note", 10, "a"), (63, 2, 1, 0)),
            (("note", 99, "a"), (63, 10, 10, 0)), (("break",), (59, 59)),
        ]:
            self.assertEqual(block_mark(shape, block), mark)
            self.assertIs(block_mark(shape, block).__class__, tuple)

    def test_marks_of_two_cells(self):
        shape = made(note=[63, 0])
        self.assertEqual(block_mark(shape, ("note", 40, "a")), (63, 0, 5, 1, 0))


if __name__ == "__main__":
    unittest.main()

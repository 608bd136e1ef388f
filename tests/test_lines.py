"""Points 26, 27 and 28, and the interface of sixdot/lines.py."""

import random
import unittest

import plain
from sixdot.errors import Unreadable
from sixdot.lines import accepts_line_prices, break_row, cost_of, is_broken, make_line_prices, unbroken
from sixdot.shape import Marks, Shape


def made_shape(width=8, on=(47,), joined=(48,)):
    return Shape(width, 4, 10, Marks([40], [41], [[42, 1], [42, 2], [42, 3]], [45], [46], on, joined, [49]))


# Those of which the greater one begins lines with `on`, too.
SHAPES = [made_shape(), made_shape(on=(48,), joined=(47,)), made_shape(9, (47, 1), (47, 0)), made_shape(10, (1, 5), (2, 0))]


def made_mark(chance):
    return tuple([45] + [chance.randint(1, 10) for _ in range(chance.randint(0, 5))])


def least_lines(shape, mark, row):
    """Returns all lists of lines of least cost, but no more than some hundred for what is behind each cell."""
    marks = (shape.marks.on, shape.marks.joined)
    best = {}
    for cell in range(len(row) - 1, -1, -1):
        for way in (0, 1):
            begin = mark if cell == 0 else marks[way]
            found = {}
            for end in range(cell + 1, min(len(row), cell + shape.width - len(begin)) + 1):
                line = begin + tuple(row[cell:end])
                gap = (shape.width - len(line)) ** 2
                ways = [(gap + 50, end, 1)] if end < len(row) else []
                if end + 1 < len(row) and row[end] == 0:
                    ways.append((gap, end + 1, 0))
                for cost, further, next_way in ways:
                    found.setdefault(cost + best[further, next_way][0], []).extend(
                        [line, *rest] for rest in best[further, next_way][1]
                    )
                if end == len(row):
                    found[0] = [[line]]
            best[cell, way] = (min(found), found[min(found)][:500])
    return best[0, 0][1]


class BreakTest(unittest.TestCase):
    def check(self, shape, mark, row):
        """Compares the lines with all other ones, and looks at what else is told of them."""
        lines = break_row(shape, mark, row)
        found = plain.breakings(shape, mark, row)
        least = min((plain.cost_of_lines(shape, other), other) for other in found)
        self.assertEqual((cost_of(shape, lines), lines), least)
        self.assertIs(is_broken(shape, mark, row, lines), True)
        self.assertEqual(unbroken(shape, lines, mark), row)
        prices = make_line_prices(shape, mark, row)
        self.assertEqual((len(prices), prices[0][0]), (len(row), least[0]))
        self.assertIs(accepts_line_prices(shape, mark, row, prices), True)
        return lines

    def test_one_cell(self):
        for row in ([0], [5]):
            self.assertEqual(self.check(SHAPES[0], (41,), row), [(41, *row)])
            self.assertEqual(self.check(SHAPES[0], (45, 2, 1, 0), row), [(45, 2, 1, 0, *row)])

    def test_as_many_cells_as_a_line_holds_and_one_more(self):
        self.assertEqual(self.check(SHAPES[0], (41,), [1] * 7), [(41,) + (1,) * 7])
        self.assertEqual(self.check(SHAPES[0], (41,), [1] * 8), [(41,) + (1,) * 7, (48, 1)])
        self.assertEqual(self.check(SHAPES[0], (41,), [1] * 14), [(41,) + (1,) * 7, (48,) + (1,) * 7])
        self.assertEqual(self.check(SHAPES[0], (41,), [1] * 15), [(41,) + (1,) * 7, (48,) + (1,) * 7, (48, 1)])
        wide = made_shape(40)
        self.assertEqual(break_row(wide, (41,), [3] * 39), [(41,) + (3,) * 39])
        self.assertEqual(break_row(wide, (41,), [3] * 40), [(41,) + (3,) * 39, (48, 3)])

    def test_marks_of_1_to_6_cells(self):
        for many in range(1, 7):
            mark = (45, 1, 2, 3, 4, 5)[:many]
            self.assertEqual(self.check(SHAPES[0], mark, [9] * (8 - many)), [mark + (9,) * (8 - many)])
            self.assertEqual(self.check(SHAPES[0], mark, [9] * (9 - many)), [mark + (9,) * (8 - many), (48, 9)])

    def test_a_blank_cell_that_is_left_out(self):
        self.assertEqual(self.check(SHAPES[0], (41,), [1, 1, 1, 1, 1, 1, 1, 0, 2]), [(41, 1, 1, 1, 1, 1, 1, 1), (47, 2)])
        self.assertEqual(self.check(SHAPES[0], (41,), [1, 1, 1, 0, 2, 2, 2, 2, 2]), [(41, 1, 1, 1), (47, 2, 2, 2, 2, 2)])
        # 49 for the line that is short, or 50 for the line that is joined.
        self.assertEqual(self.check(SHAPES[0], (41,), [1, 0, 2, 2, 2, 2, 2, 2]), [(41, 1), (47, 2, 2, 2, 2, 2, 2)])
        self.assertEqual(self.check(made_shape(10), (41,), [1, 0] + [2] * 8), [(41, 1, 0) + (2,) * 7, (48, 2)])

    def test_blank_cells_at_the_ends_are_not_left_out(self):
        self.assertEqual(self.check(SHAPES[0], (41,), [0] + [2] * 7), [(41, 0) + (2,) * 6, (48, 2)])
        self.assertEqual(self.check(SHAPES[0], (41,), [2] * 7 + [0]), [(41,) + (2,) * 7, (48, 0)])
        self.assertEqual(self.check(SHAPES[0], (41,), [0] * 8), [(41,) + (0,) * 6, (47, 0)])

    def test_blank_cells_side_by_side(self):
        self.assertEqual(self.check(SHAPES[0], (41,), [2] * 6 + [0, 0, 3]), [(41,) + (2,) * 6 + (0,), (47, 3)])
        self.assertEqual(self.check(SHAPES[0], (41,), [2] * 7 + [0, 0, 3]), [(41,) + (2,) * 7, (47, 0, 3)])

    def test_lines_of_equal_cost(self):
        # Two of three blank cells are left out, and the gaps are 3 and 1, or 1 and 3.
        row = [1, 1, 1, 1, 0, 1, 0, 1, 1, 1, 1, 0, 1, 1, 1, 0]
        wanted = [(41, 1, 1, 1, 1), (47, 1, 0, 1, 1, 1, 1), (47, 1, 1, 1, 0)]
        other = [(41, 1, 1, 1, 1, 0, 1), (47, 1, 1, 1, 1), (47, 1, 1, 1, 0)]
        self.assertEqual(least_lines(SHAPES[0], (41,), row), [wanted, other])
        self.assertEqual(break_row(SHAPES[0], (41,), row), wanted)
        # So likewise where lines are joined.
        row = [1] * 11 + [0, 1, 1, 0]
        wanted = [(41,) + (1,) * 5, (48,) + (1,) * 6, (47, 1, 1, 0)]
        self.assertEqual(least_lines(SHAPES[0], (41,), row), [wanted, [(41,) + (1,) * 6, (48,) + (1,) * 5, (47, 1, 1, 0)]])
        self.assertEqual(break_row(SHAPES[0], (41,), row), wanted)
        ties = 0
        for seed in range(400):
            chance = random.Random(seed)
            shape, mark = chance.choice(SHAPES), made_mark(chance)
            row = [chance.choice([0, 1, 1, 1]) for _ in range(chance.randint(8, 40))]
            least = least_lines(shape, mark, row)
            ties += len(least) > 1
            self.assertEqual(break_row(shape, mark, row), min(least))
        self.assertGreater(ties, 50)

    def test_rows_by_chance(self):
        for seed in range(300):
            chance = random.Random(seed)
            row = [chance.choice([0, 1, 2, 3]) for _ in range(chance.randint(1, 12))]
            self.check(chance.choice(SHAPES), made_mark(chance), row)

    def test_1600_cells(self):
        chance = random.Random(5)
        for width, row in [(8, [7] * 1600), (40, [chance.choice([0, 1, 2, 3, 4]) for _ in range(1600)]), (9, [0] * 1600)]:
            shape = made_shape(width)
            lines = break_row(shape, (41,), row)
            self.assertIs(is_broken(shape, (41,), row, lines), True)
            prices = make_line_prices(shape, (41,), row)
            self.assertEqual(prices[0][0], cost_of(shape, lines))
            self.assertIs(accepts_line_prices(shape, (41,), row, prices), True)
            prices[0] = (prices[0][0] + 1, prices[0][1])
            self.assertIs(accepts_line_prices(shape, (41,), row, prices), False)

    def test_what_is_passed_does_not_change(self):
        row = [1, 1, 0] * 6
        lines = break_row(SHAPES[0], (41,), row)
        before = list(lines)
        is_broken(SHAPES[0], (41,), row, lines)
        unbroken(SHAPES[0], lines, (41,)).clear()
        cost_of(SHAPES[0], lines)
        prices = make_line_prices(SHAPES[0], (41,), row)
        kept = list(prices)
        accepts_line_prices(SHAPES[0], (41,), row, prices)
        self.assertEqual((row, lines, prices), ([1, 1, 0] * 6, before, kept))
        lines.clear()
        self.assertEqual(break_row(SHAPES[0], (41,), row), before)


class CostTest(unittest.TestCase):
    def test_costs(self):
        shape = SHAPES[0]
        self.assertEqual(cost_of(shape, [(41, 1)]), 0)
        self.assertEqual(cost_of(shape, [(41, 1), (47, 1)]), 36)
        self.assertEqual(cost_of(shape, [(41, 1), (48, 1)]), 86)
        self.assertEqual(cost_of(shape, [(41,) * 8, (48,) * 8, (48, 2, 2), (47, 1)]), 125)
        self.assertEqual(cost_of(SHAPES[2], [(41,) * 9, (47, 0, 5), (47, 1, 0), (47, 0, 1)]), 36 + 50 + 36 + 50)


class IsBrokenTest(unittest.TestCase):
    def setUp(self):
        self.shape = SHAPES[0]
        self.row = [1, 2, 0, 3, 0, 0, 4]

    def is_broken(self, *lines):
        return is_broken(self.shape, (41,), self.row, list(lines))

    def test_any_lines_that_are_the_row(self):
        self.assertIs(self.is_broken((41, 1, 2, 0, 3, 0, 0, 4)), True)
        self.assertIs(self.is_broken((41, 1, 2), (47, 3, 0, 0, 4)), True)
        self.assertIs(self.is_broken((41, 1), (48, 2), (48, 0), (48, 3, 0), (47, 4)), True)
        self.assertIs(self.is_broken((41, 1, 2), (48, 0, 3), (47, 0, 4)), True)
        self.assertIs(self.is_broken((41, 1, 2, 0, 3, 0, 0), (48, 4)), True)

    def test_a_cell_more_and_a_cell_fewer(self):
        self.assertIs(self.is_broken((41, 1, 2), (47, 0, 3, 0, 0, 4)), False)
        self.assertIs(self.is_broken((41, 1, 2), (47, 3, 0, 4)), False)
        self.assertIs(self.is_broken((41, 1, 2), (48, 3, 0, 0, 4)), False)
        self.assertIs(self.is_broken((41, 1, 2, 0), (47, 3, 0, 0, 4)), False)
        self.assertIs(self.is_broken((41, 1, 2), (47, 3, 0, 0, 4, 5)), False)
        self.assertIs(self.is_broken((41, 1, 2), (47, 3, 0, 0)), False)
        self.assertIs(self.is_broken((41, 1, 2), (47, 3, 0, 0), (47, 4)), False)
        self.assertIs(self.is_broken((41, 1, 2), (47, 3, 0, 0, 5)), False)

    def test_lines_with_nothing_behind_their_mark(self):
        self.assertIs(self.is_broken((41,), (48, 1, 2, 0, 3, 0, 0, 4)), False)
        self.assertIs(self.is_broken((41, 1, 2), (47, 3), (47,), (47, 4)), False)
        self.assertIs(self.is_broken((41, 1, 2), (48,), (47, 3, 0, 0, 4)), False)
        self.assertIs(self.is_broken((41, 1, 2), (47, 3, 0, 0, 4), (48,)), False)
        self.assertIs(self.is_broken((41, 1, 2, 0, 3, 0, 0, 4), ()), False)

    def test_no_lines(self):
        self.assertIs(self.is_broken(), False)

    def test_a_line_that_is_too_wide(self):
        row = [1] * 8
        self.assertIs(is_broken(self.shape, (41,), row, [(41, 1, 1, 1, 1, 1, 1, 1, 1)]), False)
        self.assertIs(is_broken(self.shape, (41,), row, [(41, 1, 1, 1, 1, 1, 1, 1), (48, 1)]), True)
        self.assertIs(is_broken(self.shape, (41,), row + [1], [(41, 1), (48, 1, 1, 1, 1, 1, 1, 1, 1)]), False)

    def test_wrong_marks(self):
        self.assertIs(self.is_broken((40, 1, 2), (47, 3, 0, 0, 4)), False)
        self.assertIs(self.is_broken((47, 1, 2), (47, 3, 0, 0, 4)), False)
        self.assertIs(self.is_broken((41, 1, 2), (41, 3, 0, 0, 4)), False)
        self.assertIs(self.is_broken((41, 1, 2), (49, 3, 0, 0, 4)), False)
        self.assertIs(self.is_broken((41, 1, 2), (3, 0, 0, 4)), False)
        self.assertIs(is_broken(self.shape, (45, 2, 0), [1], [(45, 2, 1)]), False)
        self.assertIs(is_broken(self.shape, (45, 2, 0), [1], [(45, 3, 0, 1)]), False)

    def test_lists_by_chance(self):
        for seed in range(150):
            chance = random.Random(seed)
            shape = chance.choice(SHAPES)
            row = [chance.choice([0, 1]) for _ in range(chance.randint(1, 8))]
            found = plain.breakings(shape, (41,), row)
            for lines in chance.sample(found, min(len(found), 20)):
                self.assertIs(is_broken(shape, (41,), row, lines), True)
                self.assertEqual(unbroken(shape, lines, (41,)), row)
                other = [0, *row] if chance.random() < 0.5 else row[:-1] + [1 - row[-1]]
                self.assertIs(is_broken(shape, (41,), other, lines), False)


class UnbrokenTest(unittest.TestCase):
    def check_fault(self, lines, number, mark=(41,)):
        with self.subTest(lines), self.assertRaises(Unreadable) as caught:
            unbroken(SHAPES[0], lines, mark)
        self.assertEqual((caught.exception.place, caught.exception.reason), ((number,), "line"))

    def test_rows(self):
        shape = SHAPES[0]
        self.assertEqual(unbroken(shape, [(41, 0)], (41,)), [0])
        self.assertEqual(unbroken(shape, [(41, 1), (47, 2), (48, 3), (48, 0), (47, 0)], (41,)), [1, 0, 2, 3, 0, 0, 0])
        self.assertEqual(unbroken(shape, [(45, 3, 0, 1), (48, 41)], (45, 3, 0)), [1, 41])
        # Ahead of the first line nothing is left out, whatever its mark is.
        self.assertEqual(unbroken(shape, [(47, 1), (47, 2)], (47,)), [1, 0, 2])
        # The width is not looked at.
        self.assertEqual(unbroken(shape, [(41,) + (5,) * 20], (41,)), [5] * 20)

    def test_faults_in_the_first_line(self):
        for line in [(), (41,), (40, 1), (47, 1), (48, 1), (5,)]:
            self.check_fault([line, (47, 1)], 0)
        self.check_fault([(45, 3, 1)], 0, (45, 3, 0))
        self.check_fault([(45, 3, 0)], 0, (45, 3, 0))

    def test_faults_in_later_lines(self):
        for line in [(), (41, 1), (47,), (48,), (46,), (49, 1), (5,)]:
            self.check_fault([(41, 1), line], 1)
            self.check_fault([(41, 1), (47, 1), (48, 1), line, (5,)], 3)


class PricesTest(unittest.TestCase):
    def test_each_number_one_more_and_one_less(self):
        answers = {True: 0, False: 0}
        for seed in range(60):
            chance = random.Random(seed)
            shape = chance.choice(SHAPES)
            mark = made_mark(chance)
            row = [chance.choice([0, 0, 1, 2]) for _ in range(chance.randint(1, 20))]
            made = make_line_prices(shape, mark, row)
            self.assertTrue(plain.accepts_line_prices(shape, mark, row, made))
            for cell in range(len(row)):
                for change in [(1, 0), (-1, 0), (0, 1), (0, -1)]:
                    prices = list(made)
                    prices[cell] = (made[cell][0] + change[0], made[cell][1] + change[1])
                    found = accepts_line_prices(shape, mark, row, prices)
                    self.assertIs(found, plain.accepts_line_prices(shape, mark, row, prices))
                    answers[found] += 1
            made[0] = (made[0][0] + 1, made[0][1])
            self.assertIs(accepts_line_prices(shape, mark, row, made), False)
        self.assertGreater(min(answers.values()), 300)

    def test_prices_of_ways_that_are_none(self):
        # No line begins joined at the cell 0, and none with `on` but behind a blank cell that is not the first one.
        shape, row = SHAPES[0], [0, 1, 1, 0, 1, 0]
        made = make_line_prices(shape, (41,), row)
        for cell, way, is_one in [(0, 1, False), (1, 0, False), (2, 0, False), (3, 0, False), (4, 0, True), (5, 0, False),
                                  (1, 1, True), (4, 1, True), (5, 1, True), (0, 0, True)]:
            prices = [list(pair) for pair in made]
            prices[cell][way] += 1000
            self.assertIs(accepts_line_prices(shape, (41,), row, [tuple(pair) for pair in prices]), not is_one)

    def test_prices_by_chance_bound_the_costs(self):
        accepted = 0
        for seed in range(300):
            chance = random.Random(seed)
            shape = chance.choice(SHAPES)
            row = [chance.choice([0, 1]) for _ in range(chance.randint(1, 9))]
            prices = [(cost - chance.choice([0, 0, 0, 9]), other - chance.choice([0, 0, 0, 1]))
                      for cost, other in make_line_prices(shape, (41,), row)]
            found = accepts_line_prices(shape, (41,), row, prices)
            self.assertIs(found, plain.accepts_line_prices(shape, (41,), row, prices))
            if found:
                accepted += 1
                self.assertTrue(all(plain.cost_of_lines(shape, lines) >= prices[0][0]
                                    for lines in plain.breakings(shape, (41,), row)))
        self.assertGreater(accepted, 50)

    def test_lists_that_are_too_long_or_too_short(self):
        shape, row = SHAPES[0], [1, 0, 2]
        self.assertIs(accepts_line_prices(shape, (41,), row, [(0, 0)] * 3), True)
        self.assertIs(accepts_line_prices(shape, (41,), row, [(-9, -9)] * 3), True)
        for many in (0, 1, 2, 4, 5):
            self.assertIs(accepts_line_prices(shape, (41,), row, [(0, 0)] * many), False)
        self.assertIs(accepts_line_prices(shape, (41,), row, [(1, 0), (0, 0), (0, 0)]), False)


if __name__ == "__main__":
    unittest.main()

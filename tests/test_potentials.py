"""Point 16, and the interface of sixdot/potentials.py."""

import random
import unittest

import plain
from sixdot.potentials import accepts_numbers, make_numbers, shows_best
from sixdot.table import Rule, Table, is_let_by
from sixdot.writing import best_writing


def lengths_of(table, text):
    return [table.modes] * (len(text) + 1)


class NumbersTest(unittest.TestCase):
    def setUp(self):
        self.table = Table("ab", 2, [
            Rule(0, "a", [1, 1], 0), Rule(0, "b", [3], 0), Rule(0, "ab", [7], 1, behind="a$"), Rule(1, "a", [1], 0),
        ])

    def test_the_made_ones(self):
        for text, least in [("", 0), ("a", 2), ("ab", 1), ("aba", 2), ("abb", 4), ("abab", 3), ("bab", 2)]:
            numbers = make_numbers(self.table, text)
            self.assertEqual([len(row) for row in numbers], lengths_of(self.table, text))
            self.assertEqual(numbers[0][0], len(best_writing(self.table, text)[0]))
            self.assertEqual(numbers[0][0], least)
            self.assertIs(accepts_numbers(self.table, text, numbers), True)

    def test_a_text_without_a_writing(self):
        table = Table("ab", 2, [Rule(0, "a", [1], 1), Rule(1, "a", [2], 1)])
        for text in ["b", "ab", "aab", "ba"]:
            numbers = make_numbers(table, text)
            self.assertEqual([len(row) for row in numbers], lengths_of(table, text))
            self.assertIs(accepts_numbers(table, text, numbers), True)
            self.assertIs(shows_best(table, text, numbers, []), False)

    def test_places_from_which_nothing_leads_on_lower_nothing(self):
        table = Table("ab", 2, [Rule(0, "a", [1], 1), Rule(0, "a", [1, 2, 3, 4], 0), Rule(0, "b", [1, 2, 3, 4], 0)])
        numbers = make_numbers(table, "ab")
        self.assertEqual(numbers[0][0], 8)
        self.assertIs(accepts_numbers(table, "ab", numbers), True)
        self.assertIs(shows_best(table, "ab", numbers, [1, 2]), True)

    def test_each_of_them_one_more_and_one_less(self):
        for text in ["", "a", "ab", "aba", "abb", "bab", "abab"]:
            made = make_numbers(self.table, text)
            for place in range(len(text) + 1):
                for mode in range(2):
                    for change in (1, -1):
                        numbers = [list(row) for row in made]
                        numbers[place][mode] += change
                        wanted = plain.accepts(self.table, text, numbers)
                        self.assertIs(accepts_numbers(self.table, text, numbers), wanted)
            made[0][0] += 1
            self.assertIs(accepts_numbers(self.table, text, made), False)

    def test_the_last_place(self):
        self.assertIs(accepts_numbers(self.table, "", [[0, 0]]), True)
        self.assertIs(accepts_numbers(self.table, "", [[-5, -1]]), True)
        self.assertIs(accepts_numbers(self.table, "", [[1, 0]]), False)
        self.assertIs(accepts_numbers(self.table, "", [[0, 1]]), False)
        self.assertIs(accepts_numbers(self.table, "a", [[0, 0], [0, 1]]), False)

    def test_wrong_lengths(self):
        good = make_numbers(self.table, "aba")
        self.assertIs(accepts_numbers(self.table, "aba", good), True)
        wrong = [[], good[:-1], good[1:], good + [[0, 0]], [[0, 0]] * 5, [[0, 0]] * 3, [[]] * 4, [[0]] * 4, [[0, 0, 0]] * 4]
        for at in range(4):
            wrong.append(good[:at] + [good[at][:1]] + good[at + 1:])
            wrong.append(good[:at] + [good[at] + [0]] + good[at + 1:])
            wrong.append(good[:at] + [[]] + good[at + 1:])
        for numbers in wrong:
            with self.subTest(numbers):
                self.assertIs(accepts_numbers(self.table, "aba", numbers), False)
                self.assertIs(shows_best(self.table, "aba", numbers, [2, 3]), False)
        self.assertIs(accepts_numbers(self.table, "", []), False)
        self.assertIs(accepts_numbers(self.table, "", [[]]), False)

    def test_numbers_that_are_lower_than_the_made_ones(self):
        for low in (0, -1, -10 ** 20):
            numbers = [[low, low] for _ in range(4)]
            self.assertIs(accepts_numbers(self.table, "aba", numbers), True)
            self.assertIs(shows_best(self.table, "aba", numbers, [2, 3]), False)

    def test_numbers_of_modes_that_are_not_reached(self):
        numbers = make_numbers(self.table, "b")
        numbers[0][1] = 10 ** 20
        self.assertIs(accepts_numbers(self.table, "b", numbers), True)
        self.assertIs(shows_best(self.table, "b", numbers, [1]), True)

    def test_each_place_counts(self):
        table = Table("a", 1, [Rule(0, "a", [1], 0)])
        good = [[4], [3], [2], [1], [0]]
        self.assertIs(accepts_numbers(table, "aaaa", good), True)
        for at in range(5):
            numbers = [list(row) for row in good]
            numbers[at][0] += 1
            self.assertIs(accepts_numbers(table, "aaaa", numbers), False)

    def test_shows_best(self):
        numbers = make_numbers(self.table, "aba")
        self.assertIs(shows_best(self.table, "aba", numbers, [2, 3]), True)
        for way in [[0, 1, 0], [2, 0], [2], [2, 3, 3], [], [3, 2], [-2, 3], [2, -1], [4, 3], [2, 99]]:
            self.assertIs(shows_best(self.table, "aba", numbers, way), False)
        numbers[0][0] = 5
        self.assertIs(shows_best(self.table, "aba", numbers, [0, 1, 0]), False)
        low = [[0, 0]] * 4
        self.assertIs(shows_best(self.table, "aba", low, [2, 3]), False)
        self.assertIs(shows_best(self.table, "", [[0, 0]], []), True)
        self.assertIs(shows_best(self.table, "", [[-1, 0]], []), False)
        self.assertIs(shows_best(self.table, "", [[0, 0]], [0]), False)

    def test_each_way_with_the_fewest_cells_is_shown(self):
        table = Table("ab", 1, [Rule(0, "a", [2], 0), Rule(0, "b", [1], 0), Rule(0, "ab", [1, 1], 0)])
        numbers = make_numbers(table, "ab")
        self.assertIs(shows_best(table, "ab", numbers, [2]), True)
        self.assertIs(shows_best(table, "ab", numbers, [0, 1]), True)

    def test_as_the_words_say(self):
        chance = random.Random(13)
        accepted = refused = 0
        for _ in range(1000):
            table = plain.made_table(chance)
            text = plain.made_text(chance, most=6)
            before = plain.state_of(table)
            numbers = make_numbers(table, text)
            self.assertEqual([len(row) for row in numbers], lengths_of(table, text))
            self.assertTrue(plain.accepts(table, text, numbers))
            self.assertIs(accepts_numbers(table, text, numbers), True)
            ways = plain.ways(table, text)
            least = min((len(plain.row(table, way)) for way in ways), default=None)
            if ways:
                self.assertEqual(numbers[0][0], least)
            for way in ways[:20]:
                self.assertIs(shows_best(table, text, numbers, way), len(plain.row(table, way)) == least)
            for _ in range(5):
                other = [[number + chance.choice([0, 0, 0, 1, -1, -3]) for number in row] for row in numbers]
                wanted = plain.accepts(table, text, other)
                accepted += wanted
                refused += not wanted
                copy = [list(row) for row in other]
                self.assertIs(accepts_numbers(table, text, other), wanted)
                self.assertEqual(other, copy)
            self.assertEqual(plain.state_of(table), before)
        self.assertGreater(min(accepted, refused), 200)

    def test_a_text_of_400_signs_and_a_table_of_80_rules(self):
        rules = [Rule(at % 4, "abcd"[at % 3:at % 3 + 1 + at % 2], [at % 64] * (1 + at % 4), at // 4 % 4) for at in range(80)]
        table = Table("abcd", 4, rules)
        self.assertTrue(is_let_by(table))
        for text in ["abcabcab" * 50, "a" * 400, "abc" * 133 + "c"]:
            numbers = make_numbers(table, text)
            self.assertIs(accepts_numbers(table, text, numbers), True)
            best = best_writing(table, text)
            if best is not None:
                self.assertIs(shows_best(table, text, numbers, best[1]), True)
                numbers[0][0] += 1
                self.assertIs(accepts_numbers(table, text, numbers), False)

    def test_what_is_returned_is_new(self):
        make_numbers(self.table, "")[0].append(9)
        numbers = make_numbers(self.table, "a")
        numbers[0].append(9)
        self.assertEqual(len(numbers[1]), 2)
        self.assertEqual(make_numbers(self.table, ""), [[0, 0]])


if __name__ == "__main__":
    unittest.main()

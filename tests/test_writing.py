"""Points 13, 14 and 15, and the interface of sixdot/writing.py."""

import random
import unittest

import plain
from sixdot.errors import TooLarge
from sixdot.table import Rule, Table, is_let_by
from sixdot.writing import best_writing, fitting, is_way, writings


def single_signs(signs, **more):
    """Returns rules that write each sign by one cell."""
    return [Rule(0, sign, [at + 1], 0, **more) for at, sign in enumerate(signs)]


class FittingTest(unittest.TestCase):
    def test_texts(self):
        table = Table("abc", 1, [Rule(0, "a", [1], 0), Rule(0, "ab", [2], 0), Rule(0, "abca", [3], 0), Rule(0, "b", [4], 0)])
        self.assertEqual(fitting(table, "abca", 0, 0), [0, 1, 2])
        self.assertEqual(fitting(table, "abca", 1, 0), [3])
        self.assertEqual(fitting(table, "abca", 2, 0), [])
        self.assertEqual(fitting(table, "abca", 3, 0), [0])
        self.assertEqual(fitting(table, "abca", 4, 0), [])
        self.assertEqual(fitting(table, "abc", 0, 0), [0, 1])
        self.assertEqual(fitting(table, "", 0, 0), [])

    def test_modes(self):
        table = Table("a", 3, [Rule(1, "a", [1], 0), Rule(0, "a", [1], 2), Rule(1, "a", [1], 1)])
        self.assertEqual([fitting(table, "aa", 1, mode) for mode in range(3)], [[1], [0, 2], []])

    def test_ahead(self):
        rules = [Rule(0, "a", [1], 0, ahead=ahead) for ahead in (None, "^", "a", "b", "ab", "^b", "a^", "ab^")]
        table = Table("ab", 1, rules)
        self.assertEqual(fitting(table, "aaba", 0, 0), [0, 1, 5, 6, 7])
        self.assertEqual(fitting(table, "aaba", 1, 0), [0, 2, 4, 6, 7])
        self.assertEqual(fitting(table, "aaba", 3, 0), [0, 3, 4, 5, 7])

    def test_behind(self):
        rules = [Rule(0, "a", [1], 0, behind=behind) for behind in (None, "$", "a", "b", "ab", "$b", "a$", "ab$")]
        table = Table("ab", 1, rules)
        self.assertEqual(fitting(table, "abaa", 0, 0), [0, 3, 4, 5, 7])
        self.assertEqual(fitting(table, "abaa", 2, 0), [0, 2, 4, 6, 7])
        self.assertEqual(fitting(table, "abaa", 3, 0), [0, 1, 5, 6, 7])

    def test_neighbours_of_longer_texts(self):
        table = Table("abc", 1, [Rule(0, "ab", [1], 0, ahead="c", behind="a"), Rule(0, "ab", [1], 0, ahead="^", behind="$")])
        self.assertEqual(fitting(table, "caba", 1, 0), [0])
        self.assertEqual(fitting(table, "cab", 1, 0), [])
        self.assertEqual(fitting(table, "ab", 0, 0), [1])
        self.assertEqual(fitting(table, "aba", 0, 0), [])
        self.assertEqual(fitting(table, "cabb", 1, 0), [])


class WayTest(unittest.TestCase):
    def setUp(self):
        # 0 to 2: mode 0; 3 and 4: mode 1.
        self.table = Table("ab", 2, [
            Rule(0, "a", [1], 0), Rule(0, "b", [2], 1), Rule(0, "ab", [3], 1, ahead="^"), Rule(1, "a", [4], 0),
            Rule(1, "b", [5], 1, behind="$"),
        ])

    def test_ways(self):
        for text, way in [("a", [0]), ("ab", [0, 1]), ("ab", [2]), ("aba", [2, 3]), ("abb", [2, 4]), ("abb", [0, 1, 4]),
                          ("", []), ("aaba", [0, 0, 1, 3])]:
            self.assertIs(is_way(self.table, text, way), True)

    def test_lists_that_are_no_ways(self):
        cases = [
            ("a", []), ("", [0]), ("a", [0, 0]), ("aa", [0]), ("abb", [2, 3]), ("abb", [2]), ("abb", [2, 4, 4]),
            ("aba", [2, 0]), ("aba", [3, 1]), ("aa", [3, 0]), ("aab", [0, 2]), ("abbb", [2, 4, 4]), ("ab", [1, 0]),
            ("b", [0]), ("b", [4]), ("a", [3]), ("a", [5]), ("a", [-5]), ("a", [-1]), ("a", [10 ** 30]), ("ab", [0, -4]),
            ("ab", [0, 6]), ("a", [0, 7]), ("a", [0, -1]),
        ]
        for text, way in cases:
            with self.subTest((text, way)):
                self.assertIs(is_way(self.table, text, way), False)

    def test_a_way_that_is_wrong_in_one_number(self):
        chance = random.Random(7)
        wrong = 0
        for _ in range(300):
            table = plain.made_table(chance)
            text = plain.made_text(chance, most=5)
            ways = plain.ways(table, text)
            for way in ways[:5]:
                self.assertIs(is_way(table, text, way), True)
                for at in range(len(way)):
                    for number in range(-2, len(table.rules) + 2):
                        other = way[:at] + [number] + way[at + 1:]
                        self.assertIs(is_way(table, text, other), other in ways)
                        wrong += other not in ways
                self.assertIs(is_way(table, text, way + [0]), False)
                self.assertIs(is_way(table, text, way[:-1]), way == [])
        self.assertGreater(wrong, 1000)


class WritingsTest(unittest.TestCase):
    def test_the_empty_text(self):
        table = Table("a", 2, [Rule(0, "a", [1], 0)])
        self.assertEqual(writings(table, ""), [[]])
        self.assertEqual(best_writing(table, ""), ([], []))
        self.assertEqual(writings(Table("a", 1, []), ""), [[]])
        self.assertEqual(best_writing(Table("a", 1, []), ""), ([], []))

    def test_a_text_without_a_writing(self):
        table = Table("ab", 2, [Rule(0, "a", [1], 1), Rule(1, "b", [2], 0), Rule(0, "aa", [3], 0, ahead="b")])
        for text in ["b", "aa", "abb", "aab"]:
            self.assertEqual(writings(table, text), [])
            self.assertIsNone(best_writing(table, text))
        self.assertIsNone(best_writing(Table("a", 1, []), "a"))
        self.assertEqual(writings(table, "abaa"), [[1, 2, 3]])

    def test_two_ways_with_one_writing(self):
        table = Table("ab", 1, [Rule(0, "a", [1, 1], 0), Rule(0, "b", [1], 0), Rule(0, "ab", [1, 1, 1], 0),
                                Rule(0, "a", [1, 1], 0)])
        self.assertEqual(writings(table, "ab"), [[1, 1, 1]])
        self.assertEqual(best_writing(table, "ab"), ([1, 1, 1], [0, 1]))
        other = Table("ab", 1, table.rules[1:])
        self.assertEqual(best_writing(other, "ab"), ([1, 1, 1], [1]))
        self.assertEqual(writings(other, "abab"), [[1] * 6])

    def test_the_least_of_writings_with_equally_many_cells(self):
        table = Table("ab", 1, [Rule(0, "a", [2], 0), Rule(0, "b", [1], 0), Rule(0, "ab", [1, 63], 0), Rule(0, "a", [3], 0)])
        self.assertEqual(writings(table, "ab"), [[1, 63], [2, 1], [3, 1]])
        self.assertEqual(best_writing(table, "ab"), ([1, 63], [2]))
        self.assertEqual(best_writing(table, "aab"), ([2, 1, 63], [0, 2]))

    def test_fewer_cells_go_ahead_of_least_cells(self):
        table = Table("ab", 1, [Rule(0, "a", [0], 0), Rule(0, "b", [0], 0), Rule(0, "ab", [63], 0)])
        self.assertEqual(best_writing(table, "ab"), ([63], [2]))
        self.assertEqual(writings(table, "ab"), [[0, 0], [63]])

    def test_a_writing_that_is_the_beginning_of_another_one(self):
        table = Table("a", 1, [Rule(0, "a", [1], 0), Rule(0, "a", [1, 1], 0), Rule(0, "a", [1, 0], 0)])
        self.assertEqual(writings(table, "a"), [[1], [1, 0], [1, 1]])
        self.assertEqual(writings(table, "aa"), [[1, 0, 1], [1, 0, 1, 0], [1, 0, 1, 1], [1, 1], [1, 1, 0], [1, 1, 1],
                                                 [1, 1, 1, 0], [1, 1, 1, 1]])

    def test_neighbours(self):
        table = Table("ab", 1, single_signs("ab") + [
            Rule(0, "a", [11], 0, ahead="^"), Rule(0, "a", [12], 0, behind="$"), Rule(0, "b", [13], 0, ahead="a", behind="a"),
        ])
        self.assertEqual(writings(table, "a"), [[1], [11], [12]])
        self.assertEqual(writings(table, "aba"), [[x, y, z] for x in (1, 11) for y in (2, 13) for z in (1, 12)])
        self.assertEqual(writings(table, "bb"), [[2, 2]])

    def test_several_modes(self):
        table = Table("ab", 3, [Rule(0, "a", [1], 1), Rule(1, "a", [2], 2), Rule(2, "a", [3], 0), Rule(1, "b", [4], 1),
                                Rule(0, "a", [5], 0)])
        self.assertEqual(writings(table, "aaaa"), [[1, 2, 3, 1], [1, 2, 3, 5], [5, 1, 2, 3], [5, 5, 1, 2], [5, 5, 5, 1],
                                                   [5, 5, 5, 5]])
        self.assertEqual(best_writing(table, "abb"), ([1, 4, 4], [0, 3, 3]))
        self.assertEqual(best_writing(table, "aab"), ([5, 1, 4], [4, 0, 3]))

    def test_1000_and_1001_writings(self):
        tens = [Rule(0, "a", [cell], 0) for cell in range(10)]
        table = Table("ab", 1, tens)
        rows = writings(table, "aaa")
        self.assertEqual(len(rows), 1000)
        self.assertEqual(rows, [[x, y, z] for x in range(10) for y in range(10) for z in range(10)])
        more = Table("ab", 1, tens + [Rule(0, "aaa", [63], 0, ahead="^", behind="$")])
        with self.assertRaises(TooLarge) as caught:
            writings(more, "aaa")
        self.assertEqual(caught.exception.limit, "writings")
        self.assertEqual(best_writing(more, "aaa"), ([63], [10]))
        again = Table("ab", 1, tens + [Rule(0, "aaa", [9, 9, 9], 0)])
        self.assertEqual(writings(again, "aaa"), rows)

    def test_many_ways_with_few_writings(self):
        table = Table("a", 1, [Rule(0, "a" * many, [1] * many, 0) for many in (1, 2, 3, 4)] * 20)
        self.assertTrue(is_let_by(table))
        self.assertEqual(writings(table, "a" * 400), [[1] * 400])
        self.assertEqual(best_writing(table, "a" * 400), ([1] * 400, [0] * 400))

    def test_many_branches_that_come_to_nothing(self):
        table = Table("ab", 1, [Rule(0, "a", [cell], 0) for cell in range(64)])
        self.assertEqual(writings(table, "a" * 399 + "b"), [])
        self.assertIsNone(best_writing(table, "a" * 399 + "b"))

    def test_a_text_of_400_signs_and_a_table_of_80_rules(self):
        signs = "abcdefghijklmnopqrstuvwxyz "
        rules = single_signs(signs) + [Rule(0, "bbbb"[:many], [40 + many], 0, ahead="a") for many in (1, 2, 3, 4)]
        rules.extend([Rule(0, "z", [many % 7, many, 1, 63], 0, ahead="z", behind="z") for many in range(49)])
        table = Table(signs, 1, rules)
        self.assertTrue(is_let_by(table) and len(table.rules) == 80)
        text = "abbbb" * 80
        best, way = best_writing(table, text)
        self.assertEqual((best, way), ([1, 44] * 80, [0, 30] * 80))
        self.assertTrue(is_way(table, text, way))
        with self.assertRaises(TooLarge):
            writings(table, text)
        with self.assertRaises(TooLarge):
            writings(table, "z" * 400)
        self.assertEqual(len(writings(table, "y" * 395 + "abbbb")), 5)

    def test_long_writings(self):
        table = Table("ab", 1, [Rule(0, "a", [cell, 2, 3, 4], 0) for cell in range(10)] + [Rule(0, "b", [7, 7, 7, 7], 0)])
        for text in ["aaa" + "b" * 397, "b" * 397 + "aaa"]:
            rows = writings(table, text)
            self.assertEqual(len(rows), 1000)
            self.assertEqual({len(row) for row in rows}, {1600})
            self.assertEqual(rows, sorted(rows))

    def test_as_the_words_say(self):
        chance = random.Random(11)
        several = 0
        for _ in range(1500):
            table = plain.made_table(chance)
            text = plain.made_text(chance)
            before = plain.state_of(table)
            rows = plain.writings(table, text)
            several += len(rows) > 1
            with self.subTest((before, text)):
                if len(rows) <= 1000:
                    self.assertEqual(writings(table, text), rows)
                self.assertEqual(best_writing(table, text), plain.best(table, text))
                for place in range(len(text) + 1):
                    for mode in range(table.modes):
                        fits = [at for at, rule in enumerate(table.rules) if rule.mode == mode and plain.fits(rule, text, place)]
                        self.assertEqual(fitting(table, text, place, mode), fits)
            self.assertEqual(plain.state_of(table), before)
        self.assertGreater(several, 100)

    def test_what_is_returned_is_new(self):
        table = Table("a", 1, [Rule(0, "a", [1], 0)])
        best, way = best_writing(table, "a")
        best.append(9)
        way.append(9)
        writings(table, "a")[0].append(9)
        fitting(table, "a", 0, 0).append(9)
        self.assertEqual(best_writing(table, "a"), ([1], [0]))
        self.assertEqual(table.rules[0].cells, [1])
        rows = writings(Table("ab", 1, [Rule(0, "a", [1], 0), Rule(0, "a", [2], 0)]), "aa")
        rows[0].append(9)
        self.assertEqual(rows[1:], [[1, 2], [2, 1], [2, 2]])

    def test_kinds(self):
        table = Table("a", 1, [Rule(0, "a", [1], 0)])
        best = best_writing(table, "aa")
        self.assertEqual([best.__class__, best[0].__class__, best[1].__class__], [tuple, list, list])
        self.assertEqual([row.__class__ for row in writings(table, "aa")], [list])


if __name__ == "__main__":
    unittest.main()

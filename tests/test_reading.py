"""Points 17, 18, 19 and 20, and the interface of sixdot/reading.py."""

import random
import unittest

import plain
from sixdot.errors import NoText, SeveralTexts, TooLarge
from sixdot.reading import Reader, can_end, next_spots, read_row, texts_of, two_least_texts
from sixdot.table import Rule, Table, is_let_by
from sixdot.writing import writings


def doubled(signs, cells):
    """Returns a table in which each of the cells is each of the signs."""
    return Table(signs, 1, [Rule(0, sign, [cell], 0) for cell in cells for sign in signs])


class SpotsTest(unittest.TestCase):
    def setUp(self):
        self.table = Table("abc", 3, [
            Rule(0, "a", [1], 0), Rule(0, "b", [1, 2, 3, 4], 1), Rule(0, "c", [2], 2), Rule(1, "a", [1, 1], 0),
            Rule(1, "ab", [2, 0], 1), Rule(2, "c", [1, 2, 2], 0), Rule(0, "c", [1], 0),
        ])

    def test_the_beginning(self):
        self.assertEqual(next_spots(self.table, (-1, 0), 1), [(0, 1), (1, 1), (6, 1)])
        self.assertEqual(next_spots(self.table, (-1, 0), 2), [(2, 1)])
        self.assertEqual(next_spots(self.table, (-1, 0), 3), [])
        self.assertIs(can_end(self.table, (-1, 0)), True)

    def test_within_a_rule(self):
        for read, cell in [(1, 2), (2, 3), (3, 4)]:
            for other in range(6):
                wanted = [(1, read + 1)] if other == cell else []
                self.assertEqual(next_spots(self.table, (1, read), other), wanted)
            self.assertIs(can_end(self.table, (1, read)), False)
        self.assertIs(can_end(self.table, (1, 4)), True)
        self.assertEqual(next_spots(self.table, (4, 1), 0), [(4, 2)])

    def test_behind_the_last_cell(self):
        self.assertEqual(next_spots(self.table, (0, 1), 1), [(0, 1), (1, 1), (6, 1)])
        self.assertEqual(next_spots(self.table, (1, 4), 1), [(3, 1)])
        self.assertEqual(next_spots(self.table, (1, 4), 2), [(4, 1)])
        self.assertEqual(next_spots(self.table, (2, 1), 1), [(5, 1)])
        self.assertEqual(next_spots(self.table, (2, 1), 2), [])
        self.assertEqual(next_spots(self.table, (4, 2), 2), [(4, 1)])

    def test_ahead(self):
        rules = [Rule(0, "ab", [1], 0), Rule(0, "c", [1], 0)]
        rules.extend([Rule(0, "a", [2], 0, ahead=ahead) for ahead in ("^", "a", "b", "c", "bc", "^c", "a^b", None)])
        table = Table("abc", 1, rules)
        self.assertEqual(next_spots(table, (-1, 0), 2), [(2, 1), (7, 1), (8, 1), (9, 1)])
        self.assertEqual(next_spots(table, (0, 1), 2), [(4, 1), (6, 1), (8, 1), (9, 1)])
        self.assertEqual(next_spots(table, (1, 1), 2), [(5, 1), (6, 1), (7, 1), (9, 1)])

    def test_behind(self):
        behinds = [None, "a", "b", "ba", "$", "$b", "c"]
        rules = [Rule(0, "c", [1], 0, behind=behind) for behind in behinds]
        table = Table("abc", 1, rules + [Rule(0, "ab", [2], 0), Rule(0, "b", [2], 0)])
        wanted = [[7, 8], [7], [8], [7, 8], [], [8], []]
        for number, nexts in enumerate(wanted):
            self.assertEqual(next_spots(table, (number, 1), 2), [(r, 1) for r in nexts])
        self.assertEqual([can_end(table, (r, 1)) for r in range(7)], [True, False, False, False, True, True, False])

    def test_behind_holds_for_a_rule_that_is_read_whole_alone(self):
        table = Table("ab", 1, [Rule(0, "a", [1, 1], 0, behind="b")])
        self.assertEqual(next_spots(table, (0, 1), 1), [(0, 2)])
        self.assertEqual(next_spots(table, (0, 2), 1), [])

    def test_the_mode_of_the_beginning_is_0(self):
        table = Table("a", 2, [Rule(1, "a", [1], 1), Rule(1, "a", [1], 0)])
        self.assertEqual(next_spots(table, (-1, 0), 1), [])
        self.assertEqual(next_spots(table, (0, 1), 1), [(0, 1), (1, 1)])

    def test_cells_that_are_none(self):
        for cell in (-1, 64, 10 ** 30):
            self.assertEqual(next_spots(self.table, (-1, 0), cell), [])
            self.assertEqual(next_spots(self.table, (1, 1), cell), [])

    def test_the_list_is_new(self):
        for spot, cell in [((-1, 0), 1), ((0, 1), 1), ((1, 1), 2)]:
            found = next_spots(self.table, spot, cell)
            wanted = list(found)
            found.append((9, 9))
            self.assertEqual(next_spots(self.table, spot, cell), wanted)

    def test_tables_by_chance(self):
        for seed in range(200):
            table = plain.made_table(random.Random(seed), "abc", 12)
            for spot in plain.spots(table):
                self.assertIs(can_end(table, spot), plain.can_end(table, spot))
                for cell in range(4):
                    self.assertEqual(next_spots(table, spot, cell), plain.next_spots(table, spot, cell))


class ReaderTest(unittest.TestCase):
    def setUp(self):
        self.table = Table("ab", 1, [
            Rule(0, "a", [1], 0), Rule(0, "b", [1, 1], 0, behind="a"), Rule(0, "b", [2], 0), Rule(0, "ab", [1, 2], 0),
        ])

    def test_a_new_one(self):
        reader = Reader(self.table)
        self.assertEqual(reader.spots(), [(-1, 0)])
        self.assertIs(reader.is_done(), True)

    def test_steps(self):
        reader = Reader(self.table)
        self.assertEqual((reader.step(1), reader.spots(), reader.is_done()), (3, [(0, 1), (1, 1), (3, 1)], True))
        self.assertEqual((reader.step(1), reader.spots(), reader.is_done()), (4, [(0, 1), (1, 1), (1, 2), (3, 1)], True))
        self.assertEqual((reader.step(2), reader.spots(), reader.is_done()), (2, [(2, 1), (3, 2)], True))
        self.assertEqual((reader.step(0), reader.spots(), reader.is_done()), (0, [], False))

    def test_without_spots_left(self):
        reader = Reader(self.table)
        self.assertEqual(reader.step(5), 0)
        for cell in (1, 2, 0, -1, 64):
            self.assertEqual((reader.step(cell), reader.spots(), reader.is_done()), (0, [], False))

    def test_spots_that_cannot_end(self):
        reader = Reader(Table("a", 1, [Rule(0, "a", [1, 2], 0, behind="a")]))
        self.assertEqual((reader.step(1), reader.is_done()), (1, False))
        self.assertEqual((reader.step(2), reader.is_done()), (1, False))
        self.assertEqual((reader.step(1), reader.is_done()), (1, False))

    def test_a_list_that_is_changed_changes_no_reader(self):
        reader = Reader(self.table)
        reader.spots().clear()
        self.assertEqual(reader.spots(), [(-1, 0)])
        self.assertEqual(reader.step(1), 3)
        reader.spots().append((2, 1))
        reader.spots()[0] = (2, 1)
        self.assertEqual(reader.spots(), [(0, 1), (1, 1), (3, 1)])
        self.assertEqual(reader.step(2), 2)

    def test_a_table_that_is_changed_changes_no_reader(self):
        table = Table("ab", 1, self.table.rules)
        reader = Reader(table)
        table.rules[0].cells[0] = 3
        del table.rules[1:]
        self.assertEqual(reader.step(1), 3)

    def test_two_readers(self):
        one, other = Reader(self.table), Reader(self.table)
        one.step(1)
        self.assertEqual(other.spots(), [(-1, 0)])
        other.step(2)
        self.assertEqual(one.spots(), [(0, 1), (1, 1), (3, 1)])

    def test_tables_by_chance(self):
        for seed in range(300):
            chance = random.Random(seed)
            table = plain.made_table(chance, "abc", 12)
            reader = Reader(table)
            row = []
            for _ in range(8):
                row.append(chance.randrange(3))
                wanted = plain.spots_behind(table, row)
                self.assertEqual(reader.step(row[-1]), len(wanted))
                self.assertEqual(reader.spots(), wanted)
                self.assertIs(reader.is_done(), any(plain.can_end(table, spot) for spot in wanted))
                # The fact of point 19.
                self.assertIs(reader.is_done(), plain.texts(table, row) != [])


class TextsTest(unittest.TestCase):
    def test_the_empty_row(self):
        for rules in [[], [Rule(0, "a", [1], 0)], [Rule(0, "a", [1], 0, ahead="a", behind="a")]]:
            table = Table("a", 1, rules)
            self.assertEqual(texts_of(table, []), [""])
            self.assertEqual(read_row(table, []), "")

    def test_none_one_and_several(self):
        table = Table("abc", 1, [
            Rule(0, "b", [1], 0), Rule(0, "a", [1], 0), Rule(0, "ab", [1, 2], 0), Rule(0, "c", [2], 0), Rule(0, "a", [3], 0),
        ])
        self.assertEqual(texts_of(table, [4]), [])
        self.assertEqual(texts_of(table, [3]), ["a"])
        self.assertEqual(texts_of(table, [1]), ["a", "b"])
        self.assertEqual(texts_of(table, [1, 2]), ["ab", "ac", "bc"])
        self.assertEqual(texts_of(table, [3, 4]), [])
        self.assertEqual(read_row(table, [3, 2, 3]), "aca")

    def test_two_courses_with_one_text(self):
        table = Table("ab", 1, [Rule(0, "a", [1], 0), Rule(0, "b", [2], 0), Rule(0, "ab", [1, 2], 0), Rule(0, "b", [2], 0)])
        self.assertEqual(texts_of(table, [1, 2]), ["ab"])
        self.assertEqual(read_row(table, [1, 2, 1, 2]), "abab")

    def test_texts_one_of_which_is_the_beginning_of_another(self):
        table = Table("ab", 1, [Rule(0, "ab", [1], 0), Rule(0, "a", [1], 0), Rule(0, "aba", [1], 0)])
        self.assertEqual(texts_of(table, [1]), ["a", "ab", "aba"])
        with self.assertRaises(SeveralTexts) as caught:
            read_row(table, [1])
        self.assertEqual((caught.exception.first, caught.exception.second), ("a", "ab"))

    def test_neighbours(self):
        table = Table("ab", 2, [
            Rule(0, "a", [1], 1, ahead="^"), Rule(1, "b", [1], 1, ahead="a", behind="$"),
            Rule(1, "a", [1], 1, behind="ab"), Rule(1, "b", [1, 1], 0, ahead="b"),
        ])
        self.assertEqual(texts_of(table, [1]), ["a"])
        self.assertEqual(texts_of(table, [1, 1]), ["ab"])
        self.assertEqual(texts_of(table, [1, 1, 1, 1]), ["aaab"])

    def test_the_two_least(self):
        table = doubled("cab", [1])
        for row in ([1], [1, 1], [1] * 5):
            with self.assertRaises(SeveralTexts) as caught:
                read_row(table, row)
            wanted = ("a" * len(row), "a" * (len(row) - 1) + "b")
            self.assertEqual((caught.exception.first, caught.exception.second), wanted)
            self.assertEqual(two_least_texts(table, row), list(wanted))

    def test_the_two_least_of_any_number(self):
        table = doubled("ba", [1])
        self.assertEqual(two_least_texts(table, [1] * 1600), ["a" * 1600, "a" * 1599 + "b"])
        self.assertEqual(two_least_texts(table, [2]), [])
        self.assertEqual(two_least_texts(table, []), [""])

    def test_places_without_a_spot(self):
        table = Table("ab", 1, [Rule(0, "a", [1, 2], 0), Rule(0, "b", [3, 3, 3], 0, behind="a")])
        for row, place in [
            ([5], 1), ([5, 1, 2], 1), ([2], 1), ([1, 1], 2), ([1, 1, 2], 2), ([1, 2, 1, 3, 3], 4), ([3, 3, 3, 3, 1, 2], 4),
            ([1, 2, 5], 3), ([-1], 1), ([64], 1),
        ]:
            with self.subTest(row), self.assertRaises(NoText) as caught:
                read_row(table, row)
            self.assertEqual(caught.exception.place, place)
            self.assertEqual(texts_of(table, row), [])

    def test_places_at_the_end(self):
        table = Table("ab", 1, [Rule(0, "a", [1, 2], 0), Rule(0, "b", [3, 3, 3], 0, behind="a")])
        for row in ([1], [3], [3, 3], [3, 3, 3], [1, 2, 1], [1, 2, 3, 3, 3], [3, 3, 3, 1]):
            with self.subTest(row), self.assertRaises(NoText) as caught:
                read_row(table, row)
            self.assertEqual(caught.exception.place, len(row))
            self.assertEqual(texts_of(table, row), [])

    def test_a_table_without_rules(self):
        table = Table("a", 1, [])
        self.assertEqual(texts_of(table, [0]), [])
        with self.assertRaises(NoText) as caught:
            read_row(table, [0, 0])
        self.assertEqual(caught.exception.place, 1)

    def test_500_texts(self):
        # 2 * 2 * 5 * 5 * 5 texts.
        rules = [Rule(0, sign, [1], 0) for sign in "ab"] + [Rule(0, sign, [2], 0) for sign in "abcde"]
        table = Table("abcde", 1, rules)
        row = [1, 2, 1, 2, 2]
        found = texts_of(table, row)
        self.assertEqual(len(found), 500)
        self.assertEqual(found, plain.texts(table, row))
        with self.assertRaises(SeveralTexts) as caught:
            read_row(table, row)
        self.assertEqual((caught.exception.first, caught.exception.second), ("aaaaa", "aaaab"))

    def test_501_texts(self):
        rules = [Rule(0, sign, [1], 0) for sign in "ab"] + [Rule(0, sign, [2], 0) for sign in "abcde"]
        rules.append(Rule(0, "cccc", [1, 2, 1, 2, ], 1))
        rules.append(Rule(1, "f", [2], 0))
        table = Table("abcdef", 2, rules)
        self.assertTrue(is_let_by(table))
        self.assertEqual(len(plain.texts(table, [1, 2, 1, 2, 2])), 501)
        for function in (texts_of, read_row):
            with self.assertRaises(TooLarge) as caught:
                function(table, [1, 2, 1, 2, 2])
            self.assertEqual(caught.exception.limit, "texts")

    def test_texts_that_are_many_before_the_row_breaks_off(self):
        table = doubled("ab", [1])
        self.assertEqual(texts_of(table, [1] * 50 + [2]), [])
        with self.assertRaises(NoText) as caught:
            read_row(table, [1] * 50 + [2])
        self.assertEqual(caught.exception.place, 51)

    def test_courses_that_are_many_with_one_text(self):
        table = Table("a", 1, [Rule(0, "a", [1], 0), Rule(0, "a", [1], 0), Rule(0, "aa", [1, 1], 0)])
        self.assertEqual(texts_of(table, [1] * 400), ["a" * 400])

    def test_a_row_of_many_cells(self):
        table = Table("abc", 2, [
            Rule(0, "a", [1], 0), Rule(0, "b", [1, 1, 2], 0), Rule(0, "c", [2, 0, 0, 3], 1), Rule(1, "a", [1, 2], 0),
        ])
        self.assertEqual(read_row(table, [1, 1, 2, 1, 2, 0, 0, 3, 1, 2] * 400), "baca" * 400)
        self.assertEqual(texts_of(doubled("ab", [2]), [2] * 8)[-1], "b" * 8)
        with self.assertRaises(TooLarge):
            texts_of(doubled("ab", [2]), [2] * 1600)

    def test_tables_by_chance(self):
        for seed in range(400):
            chance = random.Random(seed)
            table = plain.made_table(chance, "ab", 12, cells=chance.choice([1, 2, 3]))
            before = plain.state_of(table)
            for _ in range(6):
                row = [chance.randrange(3) for _ in range(chance.randint(0, 7))]
                wanted = plain.texts(table, row)
                self.assertEqual(texts_of(table, row), wanted)
                self.assertEqual(two_least_texts(table, row), wanted[:2])
                self.check_reading(table, row, wanted)
            self.assertEqual(plain.state_of(table), before)

    def check_reading(self, table, row, wanted):
        if len(wanted) == 1:
            self.assertEqual(read_row(table, row), wanted[0])
        elif wanted:
            with self.assertRaises(SeveralTexts) as caught:
                read_row(table, row)
            self.assertEqual([caught.exception.first, caught.exception.second], wanted[:2])
        else:
            with self.assertRaises(NoText) as caught:
                read_row(table, row)
            places = [k for k in range(len(row)) if not plain.spots_behind(table, row[:k])]
            self.assertEqual(caught.exception.place, min(places, default=len(row)))

    def test_a_row_is_a_writing_of_its_texts_alone(self):
        for seed in range(150):
            chance = random.Random(seed)
            table = plain.made_table(chance, "ab", 6, cells=2)
            for row in plain.rows([0, 1], 4):
                found = texts_of(table, row)
                self.assertTrue(all(row in writings(table, text) for text in found))
                self.assertEqual([text for text in ("", "a", "b", "ab", "ba", "aab") if row in writings(table, text)],
                                 [text for text in ("", "a", "b", "ab", "ba", "aab") if text in found])

    def test_nothing_that_is_passed_changes(self):
        table = doubled("ab", [1, 2])
        before = plain.state_of(table)
        row = [1, 2, 1]
        texts_of(table, row).clear()
        with self.assertRaises(SeveralTexts):
            read_row(table, row)
        self.assertEqual(row, [1, 2, 1])
        self.assertEqual(plain.state_of(table), before)
        self.assertEqual(len(texts_of(table, row)), 8)


if __name__ == "__main__":
    unittest.main()

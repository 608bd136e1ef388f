"""Points 5, 6 and 7, and the interface of sixdot/table.py."""

import unittest

from sixdot.table import Book, Rule, Table, cell_of, dots_of, is_book, is_let_by, same_book, same_table

PRINTABLE = "".join(chr(code) for code in range(32, 127))
FREE_SIGNS = PRINTABLE.replace("^", "").replace("$", "")


def rule(mode=0, text="a", cells=(1,), to=0, ahead=None, behind=None):
    return Rule(mode, text, list(cells), to, ahead=ahead, behind=behind)


def let_by(changed, signs="abcdefgh \"\\", modes=2):
    return is_let_by(Table(signs, modes, [rule(), changed]))


class CellsTest(unittest.TestCase):
    def test_all_cells_there_and_back(self):
        for cell in range(64):
            dots = dots_of(cell)
            self.assertIsInstance(dots, list)
            self.assertEqual(dots, [k for k in range(1, 7) if (cell // 2 ** (k - 1)) % 2 == 1])
            self.assertEqual(cell_of(dots), cell)
            self.assertEqual(cell_of(dots[::-1]), cell)

    def test_single_cells(self):
        self.assertEqual(dots_of(0), [])
        self.assertEqual(dots_of(1), [1])
        self.assertEqual(dots_of(32), [6])
        self.assertEqual(dots_of(63), [1, 2, 3, 4, 5, 6])
        self.assertEqual(cell_of([]), 0)
        self.assertEqual(cell_of([6, 1]), 33)
        self.assertEqual(cell_of([3, 4, 5, 6]), 60)

    def test_nothing_that_is_passed_changes(self):
        dots = [5, 2]
        cell_of(dots)
        self.assertEqual(dots, [5, 2])
        dots_of(3).append(9)
        self.assertEqual(dots_of(3), [1, 2])


class ObjectsTest(unittest.TestCase):
    def test_attributes_of_a_rule(self):
        one = Rule(1, "ab", [3, 0], 2)
        self.assertEqual((one.mode, one.text, one.cells, one.to, one.ahead, one.behind), (1, "ab", [3, 0], 2, None, None))
        two = Rule(0, "b", [1], 0, ahead="^a", behind="$")
        self.assertEqual((two.ahead, two.behind), ("^a", "$"))
        three = Rule(mode=0, text="b", cells=[1], to=3)
        self.assertEqual(three.to, 3)

    def test_ahead_and_behind_are_passed_by_name_alone(self):
        with self.assertRaises(TypeError):
            Rule(0, "a", [1], 0, "a")

    def test_attributes_of_a_table(self):
        table = Table("ab", 2, [rule(), rule(1)])
        self.assertEqual((table.signs, table.modes, len(table.rules)), ("ab", 2, 2))
        self.assertIsInstance(table.rules, list)
        self.assertIsInstance(table.rules[1], Rule)
        self.assertEqual(table.rules[1].mode, 1)

    def test_attributes_of_a_book(self):
        self.assertEqual(Book([("head", "a"), ("break",)]).blocks, [("head", "a"), ("break",)])

    def test_a_rule_keeps_its_cells(self):
        cells = [1, 2]
        one = Rule(0, "a", cells, 0)
        cells.append(3)
        self.assertEqual(one.cells, [1, 2])

    def test_a_table_keeps_its_rules(self):
        one = Rule(0, "a", [1], 0, ahead="a")
        rules = [one]
        table = Table("ab", 1, rules)
        rules.append(rule())
        one.mode, one.text, one.to, one.ahead, one.behind = 1, "b", 1, None, "$"
        one.cells.append(5)
        self.assertEqual(len(table.rules), 1)
        kept = table.rules[0]
        self.assertEqual((kept.mode, kept.text, kept.cells, kept.to), (0, "a", [1], 0))
        self.assertEqual((kept.ahead, kept.behind), ("a", None))

    def test_two_tables_of_the_same_rules_are_apart(self):
        one = rule()
        first, second = Table("a", 1, [one]), Table("a", 1, [one])
        first.rules[0].cells.append(9)
        self.assertEqual(second.rules[0].cells, [1])

    def test_a_book_keeps_its_blocks(self):
        blocks = [("par", "a")]
        book = Book(blocks)
        blocks.append(("break",))
        self.assertEqual(book.blocks, [("par", "a")])


class LetByTest(unittest.TestCase):
    def test_signs(self):
        cases = [
            ("", False), ("a", True), (FREE_SIGNS[:60], True), (FREE_SIGNS[:61], False), (FREE_SIGNS[-60:], True),
            ("aba", False), ("  ", False), ("a^", False), ("$a", False), ("a\x7f", False), ("a\x1f", False),
            ("a\n", False), ("a\u00e9", False), (" ~", True), ('"\\', True),
        ]
        for signs, wanted in cases:
            with self.subTest(signs):
                self.assertIs(is_let_by(Table(signs, 1, [])), wanted)

    def test_modes(self):
        for modes, wanted in [(-1, False), (0, False), (1, True), (4, True), (5, False)]:
            self.assertIs(is_let_by(Table("a", modes, [])), wanted)

    def test_number_of_rules(self):
        for many, wanted in [(0, True), (1, True), (80, True), (81, False)]:
            self.assertIs(is_let_by(Table("a", 1, [rule()] * many)), wanted)

    def test_each_rule_counts(self):
        for at in range(5):
            rules = [rule()] * 5
            rules[at] = rule(mode=1)
            self.assertIs(is_let_by(Table("a", 1, rules)), False)

    def test_mode_and_to(self):
        for mode, wanted in [(-1, False), (0, True), (1, True), (2, False)]:
            self.assertIs(let_by(rule(mode=mode)), wanted)
            self.assertIs(let_by(rule(to=mode)), wanted)
        self.assertIs(let_by(rule(mode=3, to=3), modes=4), True)
        self.assertIs(let_by(rule(mode=4), modes=4), False)
        self.assertIs(let_by(rule(to=4), modes=4), False)

    def test_text(self):
        cases = [("", False), ("a", True), ("abcd", True), ("aaaa", True), ("abcde", False), ("aX", False), ("^", False),
                 ("$", False), ("a\n", False), ('" \\', True)]
        for text, wanted in cases:
            with self.subTest(text):
                self.assertIs(let_by(rule(text=text)), wanted)

    def test_cells(self):
        cases = [([], False), ([1], True), ([1, 1, 1, 1], True), ([1, 1, 1, 1, 1], False), ([-1], False), ([0], True),
                 ([63], True), ([64], False), ([1, 64], False), ([-1, 1], False)]
        for cells, wanted in cases:
            with self.subTest(cells):
                self.assertIs(let_by(rule(cells=cells)), wanted)

    def test_ahead_and_behind(self):
        both = [(None, True), ("", False), ("a", True), ("abcdefgh", True), ("aba", False), ("X", False), ("aX", False)]
        for text, wanted in both:
            with self.subTest(text):
                self.assertIs(let_by(rule(ahead=text)), wanted)
                self.assertIs(let_by(rule(behind=text)), wanted)
        for text in ["^", "a^", "^ab"]:
            self.assertIs(let_by(rule(ahead=text)), True)
            self.assertIs(let_by(rule(behind=text)), False)
        for text in ["$", "a$", "$ab"]:
            self.assertIs(let_by(rule(ahead=text)), False)
            self.assertIs(let_by(rule(behind=text)), True)
        self.assertIs(let_by(rule(ahead="^^")), False)
        self.assertIs(let_by(rule(behind="$a$")), False)

    def test_nothing_that_is_passed_changes(self):
        table = Table("ab", 1, [rule(ahead="a^")])
        is_let_by(table)
        self.assertTrue(same_table(table, Table("ab", 1, [rule(ahead="a^")])))


class SameTableTest(unittest.TestCase):
    def parts(self, **changed):
        parts = {"mode": 0, "text": "ab", "cells": [1, 2], "to": 1, "ahead": "a^", "behind": "b$"}
        parts.update(changed)
        return Rule(**parts)

    def test_equal_ones(self):
        self.assertIs(same_table(Table("ab", 2, [self.parts()]), Table("ab", 2, [self.parts()])), True)
        self.assertIs(same_table(Table("ab", 2, []), Table("ab", 2, [])), True)

    def test_one_part_differs(self):
        table = Table("ab", 2, [rule(), self.parts()])
        self.assertIs(same_table(table, Table("ba", 2, [rule(), self.parts()])), False)
        self.assertIs(same_table(table, Table("ab", 3, [rule(), self.parts()])), False)
        self.assertIs(same_table(table, Table("ab", 2, [rule()])), False)
        self.assertIs(same_table(table, Table("ab", 2, [rule(), self.parts(), rule()])), False)
        self.assertIs(same_table(table, Table("ab", 2, [self.parts(), rule()])), False)

    def test_one_part_of_a_rule_differs(self):
        table = Table("ab", 2, [rule(), self.parts()])
        changes = [
            ("mode", 1), ("text", "a"), ("cells", [1, 3]), ("cells", [1]), ("cells", [2, 1]), ("to", 0), ("ahead", None),
            ("ahead", "^a"), ("ahead", "a"), ("behind", None), ("behind", "$b"), ("behind", "b"),
        ]
        for name, value in changes:
            with self.subTest(name):
                other = Table("ab", 2, [rule(), self.parts(**{name: value})])
                self.assertIs(same_table(table, other), False)
                self.assertIs(same_table(other, table), False)


class BookTest(unittest.TestCase):
    def test_number_of_blocks(self):
        for many, wanted in [(0, False), (1, True), (200, True), (201, False)]:
            self.assertIs(is_book(Book([("break",)] * many)), wanted)
            self.assertIs(is_book(Book([("par", "a")] * many)), wanted)

    def test_kinds(self):
        kinds = [("head", "a"), ("par", "a b"), ("item", 2, "a"), ("note", 5, "a"), ("break",)]
        self.assertIs(is_book(Book(kinds)), True)
        for block in kinds:
            self.assertIs(is_book(Book([block])), True)
        for block in [("foot", "a"), ("break", "a"), ("head",), ("item", "a"), ("par", 1, "a"), ("break", 1, "a"), ()]:
            self.assertIs(is_book(Book([("par", "a"), block])), False)

    def test_depths_and_labels(self):
        for depth, wanted in [(-1, False), (0, False), (1, True), (2, True), (3, True), (4, False)]:
            self.assertIs(is_book(Book([("item", depth, "a")])), wanted)
        for label, wanted in [(-1, False), (0, False), (1, True), (99, True), (100, False)]:
            self.assertIs(is_book(Book([("note", label, "a")])), wanted)

    def test_texts(self):
        cases = [
            ("", False), ("a", True), ("a" * 400, True), ("a" * 401, False), (" a", False), ("a ", False), (" ", False),
            ("a  b", False), ("a b c", True), ("a   b", False), ("a\nb", False), ("\x7f", False), ("\u00e9", False),
            ("~^$\"\\!", True), ("a " * 199 + "ab", True), ("a " * 200, False), ("a " * 200 + "a", False), ("\t", False),
        ]
        for text, wanted in cases:
            for block in [("head", text), ("par", text), ("item", 1, text), ("note", 1, text)]:
                with self.subTest(block):
                    self.assertIs(is_book(Book([block])), wanted)
                    self.assertIs(is_book(Book([("break",), block])), wanted)

    def test_same_book(self):
        blocks = [("head", "a"), ("item", 2, "b"), ("note", 7, "c"), ("break",)]
        self.assertIs(same_book(Book(blocks), Book(list(blocks))), True)
        changes = [(0, ("par", "a")), (0, ("head", "b")), (1, ("item", 3, "b")), (1, ("note", 2, "b")),
                   (1, ("item", 2, "c")), (2, ("note", 8, "c")), (2, ("note", 7, "d")), (3, ("par", "a"))]
        for at, block in changes:
            other = list(blocks)
            other[at] = block
            self.assertIs(same_book(Book(blocks), Book(other)), False)
            self.assertIs(same_book(Book(other), Book(blocks)), False)
        self.assertIs(same_book(Book(blocks), Book(blocks[:3])), False)
        self.assertIs(same_book(Book(blocks), Book(blocks + [("break",)])), False)
        self.assertIs(same_book(Book(blocks), Book([blocks[1], blocks[0]] + blocks[2:])), False)
        self.assertIs(same_book(Book([]), Book([])), True)


if __name__ == "__main__":
    unittest.main()

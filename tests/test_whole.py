"""Points 1 to 4 and what point 2 promises, for the whole program."""

import ast
import importlib
import inspect
import pathlib
import random
import unittest

import plain_change
from sixdot import errors
from sixdot.back import read_back
from sixdot.change import accepts_bounds, least_size, make_bounds, renew
from sixdot.compare import accepts_cross_paper, compare
from sixdot.potentials import make_numbers, shows_best
from sixdot.press import Heap, Press
from sixdot.places import rows_of
from sixdot.reading import texts_of
from sixdot.shape import Marks, Shape
from sixdot.table import Book, Rule, Table, copy_of_rule
from sixdot.unique import accepts_paper, decide
from sixdot.volumes import book_lines, lay_out
from sixdot.writing import best_writing
from test_interface import CLASSES, FUNCTIONS

ROOT = pathlib.Path(__file__).resolve().parent.parent / "sixdot"
MODULES = {path.stem: ast.parse(path.read_text("utf-8")) for path in sorted(ROOT.glob("*.py"))}

MARKS = Marks([60], [61], [[62, 1], [62, 2], [62, 3]], [63], [59], [58], [57], [56])
SHAPE = Shape(8, 7, 2, MARKS)
TABLE = Table("ab ", 1, [Rule(0, "a", [1], 0), Rule(0, "b", [2, 1], 0), Rule(0, " ", [0], 0), Rule(0, "ab", [3], 0, behind=" $")])
OTHER = Table("ba ", 2, [copy_of_rule(rule) for rule in TABLE.rules[::-1]])
BOOK = Book([("head", "ab"), ("par", "a b ab aaaaaaaaa"), ("break",), ("item", 3, "ba"), ("note", 42, "a")])
VOLUMES = lay_out(SHAPE, TABLE, BOOK)
EDITED = Book([("par", "b"), *BOOK.blocks])
ROWS = rows_of(TABLE, BOOK)
SHEET = VOLUMES[0][0]
PAPER = decide(TABLE)[1]
LINES = [line for block in book_lines(SHAPE, TABLE, BOOK) for line in block]
COUNTS = [len(block) for block in book_lines(SHAPE, TABLE, BOOK)]

# Calls of all functions of the interface, by their names.
CALLS = {
    "same_table": [(TABLE, OTHER)], "same_book": [(BOOK, EDITED)], "is_let_by": [(TABLE,)], "is_book": [(BOOK,)],
    "dots_of": [(37,)], "cell_of": [([1, 3],)], "pieces": [('rule "a" = 1', 1)],
    "read_table": [('signs "ab"\nmodes 1\nrule 0 "a" = 1 to 0',)], "read_book": [("head a\nbreak",)],
    "write_table": [(TABLE,)], "write_book": [(BOOK,)], "write_cell": [(5,)], "write_quoted": [('a"b',)],
    "fitting": [(TABLE, "ab a", 0, 0)], "writings": [(TABLE, "ab ab")], "best_writing": [(TABLE, "ab ab")],
    "is_way": [(TABLE, "ab", [0, 1])], "make_numbers": [(TABLE, "ab a")],
    "accepts_numbers": [(TABLE, "ab", make_numbers(TABLE, "ab"))], "shows_best": [(TABLE, "ab", make_numbers(TABLE, "ab"), [3])],
    "next_spots": [(TABLE, (-1, 0), 1)], "can_end": [(TABLE, (0, 1))], "texts_of": [(TABLE, [3, 0, 1])], "read_row": [(TABLE, [3, 0, 1])],
    "next_pairs": [(TABLE, ((-1, 0), (0, 1)), (0, "a"))], "is_hopeful": [(TABLE, ((0, 1), (0, 1)))], "accepts_paper": [(TABLE, PAPER)],
    "decide": [(TABLE,), (Table("ab", 1, [Rule(0, "a", [1], 0), Rule(0, "b", [1], 0)]),)],
    "figures": [(10 ** 5000,)], "label_row": [((3, 0, 12),)], "block_mark": [(SHAPE, ("note", 12, "a"))],
    "break_row": [(SHAPE, (61,), ROWS[1])], "is_broken": [(SHAPE, (60,), ROWS[0], [LINES[0]])], "cost_of": [(SHAPE, LINES)],
    "make_line_prices": [(SHAPE, (61,), ROWS[1])], "accepts_line_prices": [(SHAPE, (61,), [1, 2], [(0, 0), (0, 0)])],
    "unbroken": [(SHAPE, LINES[1:3], (61,))], "may_end": [(BOOK.blocks, COUNTS, 3)], "page_ends": [(6, BOOK.blocks, COUNTS)],
    "make_prices": [(6, BOOK.blocks, COUNTS)], "accepts_prices": [(6, BOOK.blocks, COUNTS, [5], [0] * 8)],
    "book_lines": [(SHAPE, TABLE, BOOK)], "bind": [(SHAPE, [LINES[:1], LINES[1:2]], [(1,)])], "sheets_needed": [(SHAPE, [LINES[:1]])],
    "lay_out": [(SHAPE, TABLE, BOOK)], "form_fault": [(SHAPE, VOLUMES), (SHAPE, [[]])], "rows_back": [(SHAPE, VOLUMES)],
    "is_layout": [(SHAPE, TABLE, VOLUMES)], "read_back": [(SHAPE, TABLE, VOLUMES)],
    "rows_of": [(TABLE, BOOK)], "places": [(ROWS, BOOK)], "line_ends": [(SHAPE, BOOK, ROWS, (0, 0, "first"), LINES[0])],
    "sheet_ends": [(SHAPE, BOOK, ROWS, (0, 0, "first"), SHEET)], "farthest": [(SHAPE, BOOK, ROWS, (1, 0, "first"), (3, 0, "first"))],
    "least_size": [(SHAPE, TABLE, VOLUMES, EDITED)], "renew": [(SHAPE, TABLE, VOLUMES, EDITED)], "labels_between": [((1,), (1, 0, 2), 3)],
    "make_bounds": [(SHAPE, TABLE, VOLUMES, EDITED)],
    "accepts_bounds": [(SHAPE, TABLE, VOLUMES, EDITED, make_bounds(SHAPE, TABLE, VOLUMES, EDITED))],
    "missing": [(["a", "b", "a"], ["a"])], "filled": [(["a", "b", "a"], ["a"], ["b", "a"])],
    "agree": [(TABLE, OTHER, [3, 0])], "compare": [(TABLE, OTHER), (TABLE, Table("a", 1, []))],
    "accepts_cross_paper": [(TABLE, OTHER, compare(TABLE, OTHER)[1])], "useless_rules": [(TABLE,)], "without_rules": [(TABLE, [0, 2])],
    "row_line": [([1, 0, 63],)], "label_word": [((1, 0, 12),)], "sheet_lines": [(SHEET,)], "read_row of report": [(["1", "-"],)],
    "answers_of": [(['text signs "a"', "text modes 1", "table", "readable", "what"],)],
}


def parts_of(value):
    """Returns what tells all parts of a value, those of objects too."""
    if isinstance(value, (list, tuple)):
        return value.__class__.__name__, [parts_of(part) for part in value]
    if isinstance(value, dict):
        return "dict", [(parts_of(key), parts_of(part)) for key, part in value.items()]
    if hasattr(value, "__dict__"):
        return value.__class__.__name__, parts_of(vars(value))
    return value


def spoil(value):
    """Changes all lists and dicts in a value."""
    if isinstance(value, (list, tuple)):
        for part in value:
            spoil(part)
    elif isinstance(value, dict) or hasattr(value, "__dict__"):
        for part in (value if isinstance(value, dict) else vars(value)).values():
            spoil(part)
    if isinstance(value, (list, dict)):
        value.clear()


class WholeTest(unittest.TestCase):
    def functions(self):
        for module, names in FUNCTIONS.items():
            for name in names:
                key = "read_row of report" if (module, name) == ("report", "read_row") else name
                yield key, getattr(importlib.import_module(f"sixdot.{module}"), name)

    def test_every_function_is_called(self):
        self.assertEqual(sorted(CALLS), sorted(key for key, _ in self.functions()))

    def test_nothing_that_is_passed_changes_and_the_same_calls_give_the_same_results(self):
        for key, function in self.functions():
            for arguments in CALLS[key]:
                with self.subTest(key):
                    before = parts_of(arguments)
                    result = function(*arguments)
                    self.assertEqual(parts_of(arguments), before)
                    self.assertEqual(parts_of(function(*arguments)), parts_of(result))

    def test_what_is_returned_is_new(self):
        for key, function in self.functions():
            for arguments in CALLS[key]:
                with self.subTest(key):
                    before = parts_of(arguments)
                    wanted = parts_of(function(*arguments))
                    spoil(function(*arguments))
                    self.assertEqual(parts_of(arguments), before)
                    self.assertEqual(parts_of(function(*arguments)), wanted)

    def test_every_error_that_is_raised_is_one_of_the_errors(self):
        raised = set()
        for name, tree in MODULES.items():
            for node in ast.walk(tree):
                if isinstance(node, ast.Raise):
                    self.assertIsInstance(node.exc, ast.Call, name)
                    raised.add(node.exc.func.id)
        self.assertEqual(raised, {word for word, told in vars(errors).items() if isinstance(told, type)} - {"SixdotError"})
        for word in raised:
            self.assertEqual(getattr(errors, word).__bases__, (errors.SixdotError,))
        self.assertEqual(errors.SixdotError.__bases__, (ValueError,))

    def test_only_modules_of_the_package_are_imported(self):
        for name, tree in MODULES.items():
            for node in ast.walk(tree):
                self.assertNotIsInstance(node, ast.Import, name)
                if isinstance(node, ast.ImportFrom):
                    self.assertRegex(node.module, r"\Asixdot\.\w+\Z", name)

    def test_every_function_has_a_docstring(self):
        for name, tree in MODULES.items():
            for node in ast.walk(tree):
                if isinstance(node, (ast.FunctionDef, ast.ClassDef)) and node.name != "__init__":
                    self.assertTrue(ast.get_docstring(node), f"{name}: {node.name}")

    def test_classes_are_of_the_interface(self):
        for module, names in CLASSES.items():
            for name in names:
                self.assertTrue(inspect.isclass(getattr(importlib.import_module(f"sixdot.{module}"), name)))


class FactsTest(unittest.TestCase):
    """The five facts of point 2, one behind the other, for the same tables, shapes and books."""

    def test_books_from_the_table_to_the_heap(self):
        readable = 0
        for seed in range(60):
            chance = random.Random(seed)
            shape, table = plain_change.made_shape(chance), plain_change.made_table(chance)
            if seed % 2:
                # Readable, with cells 0 at the ends of rules, and texts with several writings.
                table = Table("abc ", 1, [*TABLE.rules, Rule(0, "c", [4, 0], 0), Rule(0, "ca", [5, 0, 0], 0, ahead="^ ")])
            book = Book(plain_change.made_blocks(chance, chance.randint(1, 5)))
            answer = decide(table)
            if answer[0] == "readable":
                readable += 1
                self.assertIs(accepts_paper(table, answer[1]), True)
                self.assertIs(accepts_cross_paper(table, table, compare(table, table)[1]), True)
            else:
                self.assertEqual(texts_of(table, answer[1])[:2], list(answer[2:]))
            for block in book.blocks:
                if block[0] != "break":
                    row, way = best_writing(table, block[-1])
                    self.assertIs(shows_best(table, block[-1], make_numbers(table, block[-1]), way), True)
            volumes = renew(shape, table, [], book)[0]
            edited = plain_change.edited(chance, book)
            bounds = make_bounds(shape, table, volumes, edited)
            self.assertIs(accepts_bounds(shape, table, volumes, edited, bounds), True)
            self.assertEqual(bounds[0, (0, 0, "first")], least_size(shape, table, volumes, edited))
            volumes = renew(shape, table, volumes, edited)[0]
            if answer[0] == "readable":
                self.assertEqual(read_back(shape, table, volumes).blocks, edited.blocks)
            self.press(chance, [sheet for volume in volumes for sheet in volume])
        self.assertEqual(readable, 30)

    def press(self, chance, sheets):
        """Presses a job with jams and stops, and looks at the heap."""
        heap = Heap()
        press = Press(sheets, heap)
        while press.step() != "over":
            if chance.random() < 0.1:
                press.jam()
            if chance.random() < 0.1:
                press = Press(sheets, heap, journal=press.journal()[:chance.randint(0, 20)])
        self.assertEqual(heap.sheets(), sheets)


if __name__ == "__main__":
    unittest.main()

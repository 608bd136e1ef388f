"""The interface: each name is defined in the file under which the document lists it, with the arguments told."""

import importlib
import inspect
import unittest

FUNCTIONS = {
    "table": {
        "same_table": "(table, other)", "same_book": "(book, other)", "is_let_by": "(table)", "is_book": "(book)",
        "dots_of": "(cell)", "cell_of": "(dots)",
    },
    "lexer": {"pieces": "(line, number)"},
    "reader": {"read_table": "(text)", "read_book": "(text)"},
    "writer": {"write_table": "(table)", "write_book": "(book)", "write_cell": "(cell)", "write_quoted": "(text)"},
    "writing": {
        "fitting": "(table, text, place, mode)", "writings": "(table, text)", "best_writing": "(table, text)",
        "is_way": "(table, text, way)",
    },
    "potentials": {
        "make_numbers": "(table, text)", "accepts_numbers": "(table, text, numbers)",
        "shows_best": "(table, text, numbers, way)",
    },
    "reading": {
        "next_spots": "(table, spot, cell)", "can_end": "(table, spot)", "texts_of": "(table, row)",
        "read_row": "(table, row)",
    },
    "unique": {
        "next_pairs": "(table, pair, lead)", "is_hopeful": "(table, pair)", "accepts_paper": "(table, paper)",
        "decide": "(table)",
    },
    "shape": {"figures": "(number)", "label_row": "(label)", "block_mark": "(shape, block)"},
    "lines": {
        "break_row": "(shape, mark, row)", "is_broken": "(shape, mark, row, lines)", "cost_of": "(shape, lines)",
        "make_line_prices": "(shape, mark, row)", "accepts_line_prices": "(shape, mark, row, prices)",
        "unbroken": "(shape, lines, mark)",
    },
    "pages": {
        "may_end": "(blocks, lines, at)", "page_ends": "(height, blocks, lines)", "make_prices": "(height, blocks, lines)",
        "accepts_prices": "(height, blocks, lines, ends, prices)",
    },
    "volumes": {
        "book_lines": "(shape, table, book)", "bind": "(shape, pages, labels)", "sheets_needed": "(shape, pages)",
        "lay_out": "(shape, table, book)",
    },
    "back": {
        "form_fault": "(shape, volumes)", "rows_back": "(shape, volumes)", "is_layout": "(shape, table, volumes)",
        "read_back": "(shape, table, volumes)",
    },
    "places": {
        "rows_of": "(table, book)", "places": "(rows, book)", "line_ends": "(shape, book, rows, place, line)",
        "sheet_ends": "(shape, book, rows, place, sheet)", "farthest": "(shape, book, rows, place, end)",
    },
    "change": {
        "least_size": "(shape, table, volumes, book)", "renew": "(shape, table, volumes, book)",
        "labels_between": "(before, after, number)", "make_bounds": "(shape, table, volumes, book)",
        "accepts_bounds": "(shape, table, volumes, book, bounds)",
    },
    "binder": {"missing": "(wanted, lying)", "filled": "(wanted, lying, more)"},
    "compare": {
        "agree": "(first, second, row)", "compare": "(first, second)", "accepts_cross_paper": "(first, second, paper)",
        "useless_rules": "(table)", "without_rules": "(table, numbers)",
    },
    "report": {"row_line": "(row)", "label_word": "(label)", "sheet_lines": "(sheet)", "read_row": "(words)"},
    "desk": {"answers_of": "(lines)"},
}
CLASSES = {
    "table": {
        "Rule": "(mode, text, cells, to, *, ahead=None, behind=None)", "Table": "(signs, modes, rules)", "Book": "(blocks)",
    },
    "errors": {
        "TextError": "(line, column, reason)", "TooLarge": "(limit)", "NoWriting": "(block)", "NoLayout": "(line)",
        "Unreadable": "(place, reason)", "SeveralTexts": "(first, second)", "NoText": "(place)", "StrangeSheet": "(place)",
        "NotMissing": "(number)", "InvalidLine": "(line)",
    },
    "reading": {"Reader": "(table)"},
    "shape": {
        "Marks": "(head, par, depths, note, stop, on, joined, number)", "Shape": "(width, height, size, marks)",
    },
    "press": {"Heap": "()", "Press": "(sheets, heap, *, journal='')"},
    "desk": {"Desk": "()"},
}
METHODS = {
    ("reading", "Reader"): {"step": "(self, cell)", "spots": "(self)", "is_done": "(self)"},
    ("press", "Heap"): {"drop": "(self, sheet)", "fall": "(self)", "sheets": "(self)", "dropped": "(self)"},
    ("press", "Press"): {"step": "(self)", "jam": "(self)", "journal": "(self)", "inside": "(self)"},
    ("desk", "Desk"): {"obey": "(self, line)", "lines": "(self)", "volumes": "(self)", "book": "(self)"},
}


class InterfaceTest(unittest.TestCase):
    def test_names_and_arguments(self):
        for told, is_kind in [(FUNCTIONS, inspect.isfunction), (CLASSES, inspect.isclass)]:
            for name, listed in told.items():
                module = importlib.import_module(f"sixdot.{name}")
                for word, arguments in listed.items():
                    with self.subTest(f"{name}.{word}"):
                        value = getattr(module, word)
                        self.assertTrue(is_kind(value))
                        self.assertEqual(value.__module__, module.__name__)
                        self.assertEqual(str(inspect.signature(value)), arguments)

    def test_methods(self):
        for (name, word), listed in METHODS.items():
            kind = getattr(importlib.import_module(f"sixdot.{name}"), word)
            for method, arguments in listed.items():
                with self.subTest(f"{word}.{method}"):
                    self.assertIn(method, vars(kind))
                    self.assertEqual(str(inspect.signature(vars(kind)[method])), arguments)


if __name__ == "__main__":
    unittest.main()

"""The examples of the interface, as they stand in the document."""

import pathlib
import re
import unittest

README = pathlib.Path(__file__).resolve().parent.parent / "README.md"
EXAMPLES = {
    "reader and writer": r"""
>>> from sixdot.reader import read_book, read_table
>>> from sixdot.writer import write_book, write_cell, write_table
>>> text = 'signs "ab \\""\nmodes 2\nrule 0 "ab" = 12 - 3456 to 1 ahead "a^"\nrule 1 " " = - to 0\n'
>>> table = read_table(text)
>>> table.signs, table.rules[0].cells, table.rules[0].ahead, table.rules[1].to
('ab "', [3, 0, 60], 'a^', 0)
>>> write_table(table) == text, write_cell(63), write_cell(0)
(True, '123456', '-')
>>> book = read_book("head The one\nitem 2 a  b\n")
raises TextError
>>> read_book("head The one\nnote 7 b\nbreak\n").blocks
[('head', 'The one'), ('note', 7, 'b'), ('break',)]
""",
    "writing and potentials": r"""
>>> from sixdot.table import Rule, Table
>>> from sixdot.writing import best_writing, is_way, writings
>>> rules = [Rule(0, "a", [1], 0), Rule(0, "b", [3], 0), Rule(0, "ab", [7], 1, behind="a$"), Rule(1, "a", [1], 0)]
>>> table = Table("ab", 2, rules)
>>> writings(table, "abab"), best_writing(table, "aab")
([[1, 3, 1, 3], [1, 3, 7], [7, 1, 3]], ([1, 7], [0, 2]))
>>> is_way(table, "aba", [2, 3]), is_way(table, "aba", [2, 0]), best_writing(table, "abb")
(True, False, ([1, 3, 3], [0, 1, 1]))
>>> from sixdot.potentials import accepts_numbers, make_numbers, shows_best
>>> numbers = make_numbers(table, "ab")
>>> numbers[0][0], accepts_numbers(table, "ab", numbers), shows_best(table, "ab", numbers, [2])
(1, True, True)
>>> shows_best(table, "ab", numbers, [0, 1]), accepts_numbers(table, "ab", [[2, 0], [0, 0], [0, 0]])
(False, False)
""",
    "reading and unique": r"""
>>> from sixdot.reading import Reader, read_row, texts_of
>>> from sixdot.table import Rule, Table
>>> rules = [Rule(0, "a", [1], 0), Rule(0, "b", [1, 1], 0, behind="a"), Rule(0, "b", [2], 0)]
>>> table = Table("ab", 1, rules)
>>> texts_of(table, [1, 1, 1]), texts_of(table, [1, 2])
(['aaa', 'ba'], ['ab'])
>>> read_row(table, [1, 2]), texts_of(table, [1, 1])
('ab', ['aa'])
>>> reader = Reader(table)
>>> reader.step(1), reader.spots(), reader.is_done()
(2, [(0, 1), (1, 1)], True)
>>> read_row(table, [1, 1, 1])
raises SeveralTexts
>>> from sixdot.unique import accepts_paper, decide
>>> decide(table)
('same', [1, 1, 1], 'aaa', 'ba')
>>> other = Table("ab", 1, [Rule(0, "a", [1], 0), Rule(0, "b", [1, 2], 0)])
>>> answer = decide(other)
>>> answer[0], accepts_paper(other, answer[1]), accepts_paper(table, answer[1])
('readable', True, False)
""",
    "lines": r"""
>>> from sixdot.lines import break_row, cost_of, is_broken, unbroken
>>> from sixdot.shape import Marks, Shape
>>> shape = Shape(8, 4, 10, Marks([40], [41], [[42], [43], [44]], [45], [46], [47], [48], [49]))
>>> lines = break_row(shape, (41,), [1, 2, 3, 0, 4, 5, 6, 7, 0, 8])
>>> lines, cost_of(shape, lines)
([(41, 1, 2, 3), (47, 4, 5, 6, 7, 0, 8)], 16)
>>> is_broken(shape, (41,), [1, 2, 0, 3], [(41, 1, 2), (47, 3)]), is_broken(shape, (41,), [1, 2, 0, 3], [(41, 1), (48, 2, 0, 3)])
(True, True)
>>> unbroken(shape, lines, (41,))
[1, 2, 3, 0, 4, 5, 6, 7, 0, 8]
""",
    "pages and shape": r"""
>>> from sixdot.pages import make_prices, may_end, page_ends
>>> blocks = [("head", "a"), ("par", "b"), ("par", "c")]
>>> [may_end(blocks, [1, 2, 4], at) for at in range(1, 8)]
[False, False, True, False, True, False, True]
>>> page_ends(5, blocks, [1, 2, 4])
[3, 7]
>>> make_prices(5, blocks, [1, 2, 4])[0]
1
>>> from sixdot.shape import figures, label_row
>>> figures(10), label_row((2, 0, 1))
([2, 1], [3, 11, 1, 11, 2])
""",
    "back": r"""
>>> from sixdot.back import form_fault, is_layout, read_back, rows_back
>>> from sixdot.shape import Marks, Shape
>>> from sixdot.table import Rule, Table
>>> marks = Marks([60], [61], [[62, 1], [62, 2], [62, 3]], [63], [59], [58], [57], [56])
>>> shape = Shape(8, 4, 2, marks)
>>> table = Table("ab ", 1, [Rule(0, "a", [1], 0), Rule(0, "b", [2], 0), Rule(0, " ", [0], 0)])
>>> front = ((60, 1, 2), (61, 1), (58, 2), (56, 2))
>>> volumes = [[((1,), front, ())]]
>>> rows_back(shape, volumes)
[(('head',), [1, 2], (0, 0, 0, 0)), (('par',), [1, 0, 2], (0, 0, 0, 1))]
>>> read_back(shape, table, volumes).blocks, is_layout(shape, table, volumes)
([('head', 'ab'), ('par', 'a b')], True)
>>> form_fault(shape, [[((1,), front[:3], ())]])
((0, 0, 0, 2), 'number')
""",
    "press": r"""
>>> from sixdot.press import Heap, Press
>>> heap = Heap()
>>> press = Press([("one",), ("two",)], heap)
>>> [press.step() for turn in range(5)], press.inside(), press.journal()
(['feed', 'front', 'turn', 'back', 'drop'], None, '')
>>> again = Press([("one",), ("two",)], heap, journal="don")
>>> [again.step() for turn in range(8)], again.journal()
(['note', 'feed', 'front', 'turn', 'back', 'drop', 'note', 'over'], 'done 0\ndone 1\n')
>>> heap.sheets(), heap.dropped()
([('one',), ('two',)], 2)
""",
    "binder": r"""
>>> from sixdot.binder import filled, missing
>>> missing(["a", "b", "a", "c"], ["a", "c"]), filled(["a", "b"], ["b"], ["a"])
([1, 2], ['a', 'b'])
>>> missing(["a", "b"], ["b", "a"])
raises StrangeSheet
""",
    "compare": r"""
>>> from sixdot.compare import accepts_cross_paper, compare, useless_rules
>>> from sixdot.table import Rule, Table
>>> one = Table("ab", 1, [Rule(0, "a", [1], 0), Rule(0, "b", [2], 0), Rule(0, "ab", [1, 2], 0)])
>>> two = Table("ba", 2, [Rule(0, "b", [2], 0), Rule(0, "a", [1], 0), Rule(1, "b", [3], 0)])
>>> answer = compare(one, two)
>>> answer[0], accepts_cross_paper(one, two, answer[1]), useless_rules(two)
('same', True, [2])
>>> compare(one, Table("ab", 1, [Rule(0, "a", [1], 0), Rule(0, "b", [2], 0, ahead="a")]))
('apart', [2], ['b'], [])
""",
    "desk": r"""
>>> from sixdot.desk import Desk
>>> desk = Desk()
>>> lines = ['signs "ab "', "modes 1", 'rule 0 "a" = 1 to 0', 'rule 0 "b" = 12 to 0', 'rule 0 " " = - to 0']
>>> [desk.obey("text " + line) for line in lines][4], desk.obey("table"), desk.obey("shape 8 4 2")
(['lines 5'], ['table 3'], ['shape'])
>>> desk.obey("write ab a"), desk.obey("texts 1 12 - 1"), desk.obey("readable")
(['1 12 - 1'], ['"ab a"'], ['yes'])
>>> desk.obey("text head ab"), desk.obey("text par a b"), desk.obey("book"), desk.obey("lay"), desk.obey("back")
(['lines 1'], ['lines 2'], ['book 2'], ['sheets 1 in 1'], ['same'])
>>> desk.obey("sheet 0 0")
['label 1', 'front', '3456 1 12', '13456 1 - 12', '456 2']
>>> desk.obey("fall 0 0"), desk.obey("back")
(['sheets 0 in 0'], ['fault empty'])
""",
}


def steps_of(example):
    """Returns the list of the pairs of a line behind `>>>` and what the next line tells, or None."""
    lines = example.strip().splitlines()
    steps = []
    for at, line in enumerate(lines):
        if line.startswith(">>> "):
            told = lines[at + 1] if at + 1 < len(lines) and not lines[at + 1].startswith(">>> ") else None
            steps.append((line[4:], told))
    return steps


class ExamplesTest(unittest.TestCase):
    def check(self, step, told, names):
        if told is None:
            exec(step, names)
        elif told.startswith("raises "):
            with self.assertRaises(ValueError) as caught:
                exec(step, names)
            self.assertEqual(caught.exception.__class__.__name__, told.removeprefix("raises "))
        else:
            self.assertEqual(repr(eval(step, names)), told)

    def test_examples(self):
        for title, example in EXAMPLES.items():
            names = {}
            for step, told in steps_of(example):
                with self.subTest(f"{title}: {step}"):
                    self.check(step, told, names)

    def test_how_to_use_it(self):
        for example in re.findall(r"```\n(.*?)```", README.read_text("utf-8"), re.DOTALL):
            names = {}
            for step, told in steps_of(example):
                with self.subTest(step):
                    self.check(step, told, names)


if __name__ == "__main__":
    unittest.main()

"""Points 21 to 25, and the interface of sixdot/unique.py."""

import random
import unittest

import plain
from sixdot.errors import TooLarge
from sixdot.reading import texts_of
from sixdot.table import Rule, Table, is_let_by
from sixdot.unique import accepts_paper, decide, is_hopeful, next_pairs

BEGIN = (-1, 0)
START = (BEGIN, BEGIN, (0, ""))
SIGNS = "abcdefghijklmnopqrstuvwxyzABCDEFGHIJKLMNOPQRSTUVWXYZ01234567"


def single_cells(groups, texts=SIGNS):
    """Returns a table in which so many rules write the first sign by the cell 1, so many the second one by 2, .."""
    return Table(texts, 1, [Rule(0, texts[at], [at + 1], 0) for at, many in enumerate(groups) for _ in range(many)])


class PairsTest(unittest.TestCase):
    def setUp(self):
        self.table = Table("abc", 1, [
            Rule(0, "a", [1], 0), Rule(0, "ab", [1], 0), Rule(0, "b", [2], 0), Rule(0, "ca", [2, 3], 0), Rule(0, "aab", [1], 0),
        ])

    def after(self, pair, lead, further):
        """Returns the leads with which a pair goes on to another one."""
        return [told for _, reached, told in next_pairs(self.table, pair, lead) if reached == further]

    def test_leads_on_either_side(self):
        start = (BEGIN, BEGIN)
        self.assertEqual(self.after(start, (0, ""), ((0, 1), (0, 1))), [(0, "")])
        self.assertEqual(self.after(start, (0, ""), ((1, 1), (0, 1))), [(0, "b")])
        self.assertEqual(self.after(start, (0, ""), ((0, 1), (1, 1))), [(1, "b")])
        self.assertEqual(self.after(start, (0, ""), ((4, 1), (0, 1))), [(0, "ab")])
        self.assertEqual(self.after(start, (0, ""), ((1, 1), (4, 1))), [None])

    def test_leads_that_grow_shrink_and_change_their_side(self):
        pair = ((1, 1), (0, 1))
        self.assertEqual(self.after(pair, (0, "b"), ((2, 1), (2, 1))), [(0, "b")])
        self.assertEqual(self.after(pair, (0, "b"), ((0, 1), (0, 1))), [None])
        self.assertEqual(self.after(pair, (0, "a"), ((1, 1), (0, 1))), [(0, "ab")])
        self.assertEqual(self.after(pair, (0, "a"), ((0, 1), (4, 1))), [(1, "b")])
        self.assertEqual(self.after(pair, (0, "ab"), ((0, 1), (4, 1))), [None])
        self.assertEqual(self.after(pair, (1, "a"), ((0, 1), (0, 1))), [(1, "a")])
        self.assertEqual(self.after(pair, (1, "a"), ((4, 1), (0, 1))), [(0, "b")])

    def test_leads_that_meet_again(self):
        pair = ((0, 1), (0, 1))
        self.assertEqual(self.after(pair, (0, "a"), ((1, 1), (4, 1))), [(0, "")])
        self.assertEqual(self.after(pair, (1, "a"), ((4, 1), (1, 1))), [(0, "")])

    def test_leads_that_break(self):
        pair = ((0, 1), (0, 1))
        self.assertEqual(self.after(pair, (0, ""), ((2, 1), (3, 1))), [None])
        self.assertEqual(self.after(pair, (0, "b"), ((2, 1), (3, 1))), [None])
        self.assertEqual(self.after(pair, (1, "c"), ((2, 1), (2, 1))), [None])

    def test_a_lead_that_is_none(self):
        for pair in [(BEGIN, BEGIN), ((0, 1), (2, 1)), ((3, 1), (3, 1))]:
            found = next_pairs(self.table, pair, None)
            self.assertTrue(found)
            self.assertEqual([lead for _, _, lead in found], [None] * len(found))
            self.assertEqual([told[:2] for told in found], [told[:2] for told in next_pairs(self.table, pair, (0, ""))])

    def test_within_rules_nothing_is_added(self):
        for lead in [(0, ""), (0, "xyz"), (1, "c")]:
            self.assertEqual(next_pairs(self.table, ((3, 1), (3, 1)), lead), [(3, ((3, 2), (3, 2)), lead)])
        table = Table("ab", 1, [Rule(0, "a", [1, 2], 0), Rule(0, "b", [2], 0), Rule(0, "ab", [1, 2], 0)])
        self.assertEqual(next_pairs(table, ((0, 1), (1, 1)), (0, "ab")), [(2, ((0, 2), (1, 1)), None)])
        self.assertEqual(next_pairs(table, ((0, 1), (1, 1)), (0, "b")), [(2, ((0, 2), (1, 1)), (0, ""))])
        self.assertEqual(next_pairs(table, ((0, 1), (2, 1)), (1, "b")), [(2, ((0, 2), (2, 2)), (1, "b"))])

    def test_order(self):
        table = Table("ab", 1, [
            Rule(0, "a", [5], 0), Rule(0, "b", [2], 0), Rule(0, "a", [2], 0), Rule(0, "ab", [0, 1], 0), Rule(0, "b", [5], 0),
        ])
        self.assertEqual([told[:2] for told in next_pairs(table, (BEGIN, BEGIN), (0, ""))], [
            (0, ((3, 1), (3, 1))),
            (2, ((1, 1), (1, 1))), (2, ((1, 1), (2, 1))), (2, ((2, 1), (1, 1))), (2, ((2, 1), (2, 1))),
            (5, ((0, 1), (0, 1))), (5, ((0, 1), (4, 1))), (5, ((4, 1), (0, 1))), (5, ((4, 1), (4, 1))),
        ])

    def test_cells_by_which_one_of_the_spots_alone_goes_on(self):
        self.assertEqual(next_pairs(self.table, ((3, 1), (0, 1)), (0, "")), [])
        self.assertEqual([cell for cell, _, _ in next_pairs(self.table, ((0, 1), BEGIN), (0, ""))], [1] * 9 + [2] * 4)

    def test_the_list_is_new(self):
        found = next_pairs(self.table, ((3, 1), (3, 1)), (0, ""))
        found.clear()
        self.assertEqual(len(next_pairs(self.table, ((3, 1), (3, 1)), (0, ""))), 1)

    def test_tables_by_chance(self):
        for seed in range(150):
            chance = random.Random(seed)
            table = plain.made_table(chance, "ab", 7)
            known = plain.spots(table)
            for _ in range(25):
                pair = (chance.choice(known), chance.choice(known))
                lead = chance.choice([None, (0, ""), (0, "a"), (1, "a"), (0, "ab"), (1, "ba"), (1, "bbaab"), (0, "bab")])
                self.assertEqual(next_pairs(table, pair, lead), plain.next_pairs(table, pair, lead))


class HopefulTest(unittest.TestCase):
    def test_pairs(self):
        table = Table("ab", 2, [
            Rule(0, "a", [1, 2], 0), Rule(0, "b", [2, 1], 0), Rule(0, "ab", [1, 2, 3], 1), Rule(1, "a", [3], 1, behind="a"),
        ])
        self.assertIs(is_hopeful(table, (BEGIN, BEGIN)), True)
        self.assertIs(is_hopeful(table, ((0, 1), (0, 1))), True)
        self.assertIs(is_hopeful(table, ((0, 2), BEGIN)), True)
        self.assertIs(is_hopeful(table, ((0, 1), (1, 1))), False)
        self.assertIs(is_hopeful(table, ((0, 1), BEGIN)), False)
        self.assertIs(is_hopeful(table, ((2, 3), (2, 2))), False)
        self.assertIs(is_hopeful(table, ((2, 2), (2, 2))), True)
        # A way that goes round for ever, and never ends.
        self.assertIs(is_hopeful(table, ((3, 1), (3, 1))), False)
        self.assertIs(is_hopeful(table, ((3, 1), (2, 3))), False)

    def test_the_leads_do_not_matter(self):
        table = Table("ab", 1, [Rule(0, "a", [1], 0), Rule(0, "b", [1], 0)])
        self.assertIs(is_hopeful(table, ((0, 1), (1, 1))), True)

    def test_tables_by_chance(self):
        for seed in range(120):
            chance = random.Random(seed)
            table = plain.made_table(chance, "ab", 5)
            known = plain.spots(table)
            for _ in range(20):
                pair = (chance.choice(known), chance.choice(known))
                self.assertIs(is_hopeful(table, pair), plain.is_hopeful(table, pair))


class PaperTest(unittest.TestCase):
    def setUp(self):
        # 0 and 1 begin alike; their leads meet again, and other pairs are hopeless.
        self.table = Table("abc", 2, [
            Rule(0, "a", [1], 1), Rule(1, "b", [2], 0), Rule(0, "ab", [1, 2], 0), Rule(0, "c", [3], 0),
            Rule(0, "c", [1, 3], 0, behind="a"), Rule(1, "c", [2, 2], 1, behind="c"),
        ])
        self.answer = decide(self.table)
        self.paper = self.answer[1]

    def accepts(self, kept, hopeless):
        paper = (list(kept), list(hopeless))
        found = accepts_paper(self.table, paper)
        self.assertIs(found, plain.accepts_paper(self.table, paper))
        return found

    def test_the_made_one(self):
        self.assertEqual(self.answer[0], "readable")
        kept, hopeless = self.paper
        self.assertIs(kept.__class__, list)
        self.assertIs(hopeless.__class__, list)
        self.assertIn(START, kept)
        self.assertIn(((0, 1), (2, 1), (1, "b")), kept)
        self.assertIn(((2, 1), (0, 1), (0, "b")), kept)
        self.assertIn(((0, 1), (4, 1)), hopeless)
        self.assertIs(self.accepts(kept, hopeless), True)

    def test_told_again_and_in_another_order(self):
        kept, hopeless = self.paper
        self.assertIs(self.accepts(kept + kept, hopeless + hopeless), True)
        self.assertIs(self.accepts(reversed(kept), reversed(hopeless)), True)

    def test_one_left_out(self):
        kept, hopeless = self.paper
        for told in kept:
            self.assertIs(self.accepts([other for other in kept if other != told], hopeless), False)
        for told in hopeless:
            self.assertIs(self.accepts(kept, [other for other in hopeless if other != told]), False)

    def test_one_with_another_lead(self):
        kept, hopeless = self.paper
        for at, (first, second, lead) in enumerate(kept):
            for other in [(0, ""), (0, "a"), (1, "b"), (0, "b"), (1, "bb"), (0, "bc"), (1, ""), (2, ""), (-1, "b"), (2, "b")]:
                if other != lead:
                    self.assertIs(self.accepts(kept[:at] + [(first, second, other)] + kept[at + 1:], hopeless), False)

    def test_one_with_another_spot(self):
        kept, hopeless = self.paper
        strange = [(6, 1), (-1, 1), (-2, 0), (0, 0), (0, 2), (2, 3), (2, -1), (-1, -1), (10 ** 30, 1), (0, 10 ** 30), (-6, 1)]
        for spot in strange:
            for at, (first, second, lead) in enumerate(kept):
                self.assertIs(self.accepts(kept[:at] + [(spot, second, lead)] + kept[at + 1:], hopeless), False)
                self.assertIs(self.accepts(kept[:at] + [(first, spot, lead)] + kept[at + 1:], hopeless), False)
            for at, (first, second) in enumerate(hopeless):
                self.assertIs(self.accepts(kept, hopeless[:at] + [(spot, second)] + hopeless[at + 1:]), False)
                self.assertIs(self.accepts(kept, hopeless[:at] + [(first, spot)] + hopeless[at + 1:]), False)

    def test_one_that_is_added(self):
        kept, hopeless = self.paper
        # Spots that are none, and leads that are none, are never accepted, though nothing leads there.
        for told in [((6, 1), (0, 1), (0, "")), ((0, 1), (0, 2), (0, "")), ((0, 1), (0, 1), (2, "")),
                     ((0, 1), (0, 1), (1, "")), ((0, 1), (0, 1), (-1, "a")), ((5, 1), (0, 1), (3, "b"))]:
            self.assertIs(self.accepts(kept + [told], hopeless), False)
        for pair in [((6, 1), (0, 1)), ((0, 1), (0, 0)), ((-1, 1), (-1, 1))]:
            self.assertIs(self.accepts(kept, hopeless + [pair]), False)
        # Pairs that can end are not hopeless; others are, or are not, as what is behind them is told.
        self.assertIs(self.accepts(kept, hopeless + [(BEGIN, BEGIN)]), False)
        self.assertIs(self.accepts(kept, hopeless + [((0, 1), BEGIN)]), False)
        self.assertIs(self.accepts(kept, hopeless + [((3, 1), (1, 1))]), False)
        self.assertIs(self.accepts(kept, hopeless + [((4, 1), (2, 1))]), True)
        self.assertIs(self.accepts(kept, hopeless + [((0, 1), (2, 1))]), False)

    def test_kept_ones_that_nothing_leads_to(self):
        kept, hopeless = self.paper
        # Without ways on, any lead will do, if the pair cannot end.
        self.assertIs(self.accepts(kept + [((4, 1), (2, 1), (0, "zz"))], hopeless), True)
        self.assertIs(self.accepts(kept + [((4, 1), (2, 1), (1, "%"))], hopeless), True)
        for lead in [(2, "b"), (-1, "b"), (2, ""), (1, "")]:
            self.assertIs(self.accepts(kept + [((4, 1), (2, 1), lead)], hopeless), False)
        self.assertIs(self.accepts(kept + [((2, 2), (2, 2), (0, "a"))], hopeless), False)
        self.assertIs(self.accepts(kept + [((0, 1), (2, 1), (1, "c"))], hopeless), False)

    def test_a_pair_that_is_kept_and_hopeless(self):
        kept, hopeless = self.paper
        pair = hopeless[0]
        self.assertIs(self.accepts(kept + [(pair[0], pair[1], (0, "b"))], hopeless), True)

    def test_empty_papers(self):
        self.assertIs(self.accepts([], []), False)
        self.assertIs(self.accepts([START], []), False)
        self.assertIs(self.accepts([], self.paper[1]), False)
        self.assertIs(accepts_paper(Table("a", 1, []), ([], [])), False)
        self.assertIs(accepts_paper(Table("a", 1, []), ([START], [])), True)
        self.assertIs(accepts_paper(Table("a", 1, []), ([START], [(BEGIN, BEGIN)])), False)

    def test_the_paper_of_another_table(self):
        other = Table("abc", 2, self.table.rules[:5] + [Rule(1, "c", [2, 2], 1)])
        self.assertEqual(decide(other)[0], "readable")
        self.assertIs(accepts_paper(other, decide(other)[1]), True)
        shorter = Table("abc", 2, self.table.rules[:1])
        self.assertIs(accepts_paper(shorter, self.paper), False)

    def test_no_paper_for_a_table_that_is_not_readable(self):
        table = Table("ab", 1, [Rule(0, "a", [1], 0), Rule(0, "b", [1], 0)])
        pairs = [((k, 1), (m, 1)) for k in range(2) for m in range(2)]
        for lead in [(0, ""), (0, "a"), (1, "b")]:
            kept = [START] + [(first, second, lead) for first, second in pairs]
            self.assertIs(accepts_paper(table, (kept, [])), False)
            self.assertIs(accepts_paper(table, (kept[:1], pairs)), False)

    def test_what_is_passed_does_not_change(self):
        kept, hopeless = list(self.paper[0]), list(self.paper[1])
        before = plain.state_of(self.table)
        accepts_paper(self.table, self.paper)
        decide(self.table)
        self.assertEqual(self.paper, (kept, hopeless))
        self.assertEqual(plain.state_of(self.table), before)
        self.paper[0].clear()
        self.assertEqual(sorted(decide(self.table)[1][0]), sorted(kept))

    def test_papers_by_chance(self):
        accepted = 0
        for seed in range(250):
            chance = random.Random(seed)
            table = plain.made_table(chance, "ab", 5, cells=3)
            known = plain.spots(table)
            answer = decide(table)
            kept, hopeless = answer[1] if answer[0] == "readable" else ([START], [])
            for _ in range(8):
                changed = [list(kept), list(hopeless)]
                spots = (chance.choice(known), chance.choice(known))
                lead = chance.choice([(0, ""), (0, "a"), (1, "b"), (1, "")])
                kind = chance.randrange(5)
                if kind == 0:
                    changed[0].pop(chance.randrange(len(kept)))
                elif kind == 1:
                    changed[0].append((*spots, lead))
                elif kind == 2:
                    changed[1].append(spots)
                elif kind == 3 and hopeless:
                    changed[1].pop(chance.randrange(len(hopeless)))
                found = accepts_paper(table, tuple(changed))
                self.assertIs(found, plain.accepts_paper(table, changed))
                accepted += found
                # Point 24: an accepted paper and a row with two texts do not go together.
                self.assertFalse(found and answer[0] == "same")
        self.assertGreater(accepted, 100)


class DecideTest(unittest.TestCase):
    def check(self, table, *, most=5):
        """Compares the answer with all rows of at most so many cells."""
        answer = decide(table)
        cells = sorted({cell for rule in table.rules for cell in rule.cells})
        if answer[0] == "readable":
            self.assertEqual(len(answer), 2)
            self.assertIs(accepts_paper(table, answer[1]), True)
            self.assertTrue(plain.accepts_paper(table, answer[1]))
            for row in plain.rows(cells, most):
                self.assertLessEqual(len(plain.texts(table, row)), 1)
            return answer
        _, found, first, second = answer
        self.assertEqual([first, second], plain.texts(table, found)[:2])
        for row in plain.rows(cells, min(most, len(found))):
            if row == found:
                break
            self.assertLessEqual(len(plain.texts(table, row)), 1)
        return answer

    def test_a_table_without_rules(self):
        self.assertEqual(decide(Table("a", 1, [])), ("readable", ([START], [])))

    def test_a_row_of_one_cell(self):
        table = Table("ab", 1, [Rule(0, "b", [7], 0), Rule(0, "a", [7], 0), Rule(0, "a", [63], 0), Rule(0, "b", [63], 0)])
        self.assertEqual(self.check(table), ("same", [7], "a", "b"))
        table = Table("ab", 1, [Rule(0, "ab", [0], 0), Rule(0, "a", [0], 0)])
        self.assertEqual(self.check(table), ("same", [0], "a", "ab"))

    def test_rows_of_several_cells(self):
        table = Table("ab", 1, [Rule(0, "a", [1, 2], 0), Rule(0, "b", [3], 0), Rule(0, "b", [1], 0), Rule(0, "a", [2, 3], 0)])
        self.assertEqual(self.check(table), ("same", [1, 2, 3], "ab", "ba"))
        table = Table("ab", 1, [Rule(0, "a", [1], 0), Rule(0, "b", [1, 2, 2], 0), Rule(0, "a", [2, 2, 1], 0, ahead="a")])
        self.assertEqual(self.check(table), ("same", [1, 2, 2, 1], "aa", "ba"))

    def test_the_least_row_of_its_length(self):
        table = Table("abc", 1, [
            Rule(0, "a", [2, 5], 0), Rule(0, "b", [2, 5], 0), Rule(0, "c", [2, 4], 0), Rule(0, "a", [2, 4], 0),
            Rule(0, "a", [3, 0], 0), Rule(0, "b", [3, 0], 0),
        ])
        self.assertEqual(self.check(table), ("same", [2, 4], "a", "c"))
        # Pairs with the greater rows come first, and the shorter rule stands behind the others.
        table = Table("abc", 1, [
            Rule(0, "a", [1, 9, 1], 0), Rule(0, "a", [1, 3, 8], 0), Rule(0, "b", [1, 3, 8], 0), Rule(0, "b", [1, 9, 1], 0),
            Rule(0, "c", [0, 9, 9], 0), Rule(0, "a", [0, 9, 9, 9], 0),
        ])
        self.assertEqual(self.check(table, most=2), ("same", [1, 3, 8], "a", "b"))

    def test_the_two_least_texts_of_any_number(self):
        table = Table("edcba", 1, [Rule(0, sign, [1], 0, behind="abcde", ahead="^") for sign in "edcba"] + [
            Rule(0, sign, [2], 0, ahead="abcde") for sign in "edcba"
        ])
        self.assertEqual(self.check(table), ("same", [1, 2], "aa", "ab"))
        # More than 500 texts: each of the five rows of cells ahead of the last one has five.
        signs = "edcba"
        rules = [Rule(k, sign, [k], k + 1, behind=signs) for k in range(3) for sign in signs]
        rules.extend([Rule(3, sign, [3, 3], 3) for sign in "edcba"])
        table = Table(signs, 4, rules)
        self.assertEqual(decide(table), ("same", [0, 1, 2, 3, 3], "aaaa", "aaab"))
        with self.assertRaises(TooLarge):
            texts_of(table, [0, 1, 2, 3, 3])

    def test_leads_that_come_to_an_end_later_on(self):
        # The first text is ahead by one sign more with each cell, and is told apart at the end alone.
        table = Table("ab", 2, [Rule(0, "a", [1], 0), Rule(0, "b", [1, 1], 1), Rule(0, "a", [2], 0), Rule(1, "b", [2], 1)])
        self.assertEqual(self.check(table), ("same", [1, 1], "aa", "b"))
        table = Table("ab", 2, [
            Rule(0, "a", [1], 0, behind="a"), Rule(0, "aa", [1], 1, behind="a"), Rule(1, "aa", [1], 1, behind="a"),
            Rule(0, "a", [2], 0, behind="$"), Rule(1, "a", [2], 1, behind="$"),
        ])
        self.assertEqual(self.check(table), ("same", [1, 2], "aa", "aaa"))

    def test_leads_that_grow_without_hope(self):
        table = Table("ab", 2, [
            Rule(0, "a", [1], 0), Rule(0, "aa", [1], 1, behind="a"), Rule(1, "aa", [1], 1, behind="a"), Rule(0, "b", [2], 0),
        ])
        answer = self.check(table)
        self.assertEqual(answer[0], "readable")
        self.assertIn(((0, 1), (1, 1)), answer[1][1])
        self.assertIn(((2, 1), (0, 1)), answer[1][1])

    def test_neighbours_that_make_a_table_readable(self):
        rules = [Rule(0, "a", [1], 0, behind="b$"), Rule(0, "b", [1], 0, ahead="b^"), Rule(0, "b", [2], 0)]
        self.assertEqual(decide(Table("ab", 1, rules))[:2], ("same", [1]))
        rules = [Rule(0, "a", [1], 0, behind="b"), Rule(0, "a", [1], 0, ahead="b"), Rule(0, "b", [2], 0, behind="$")]
        self.assertEqual(self.check(Table("ab", 1, rules))[0], "readable")

    def test_two_courses_with_one_text_are_readable(self):
        table = Table("ab", 2, [
            Rule(0, "a", [1], 0), Rule(0, "ab", [1, 2], 0), Rule(0, "b", [2], 1), Rule(1, "a", [1], 0), Rule(1, "b", [2], 1),
        ])
        self.assertEqual(self.check(table)[0], "readable")

    def test_tables_by_chance(self):
        answers = {"readable": 0, "same": 0}
        for seed in range(500):
            chance = random.Random(seed)
            table = plain.made_table(chance, "ab", chance.choice([3, 6, 12]), cells=chance.choice([2, 3]))
            answers[self.check(table)[0]] += 1
        self.assertGreater(min(answers.values()), 100)

    def test_rows_that_are_long(self):
        lengths = {}
        for seed in range(3000):
            chance = random.Random(seed)
            table = plain.made_table(chance, "ab", 5, cells=2)
            answer = decide(table)
            if answer[0] == "same":
                lengths[len(answer[1])] = lengths.get(len(answer[1]), 0) + 1
                if len(answer[1]) > 6:
                    self.assertEqual(list(answer[2:]), plain.texts(table, answer[1])[:2])
                    self.check(table, most=8)
        self.assertGreater(max(lengths), 6)


class LargeTest(unittest.TestCase):
    def test_4000_tuples(self):
        # With the one at the beginning: 1 + 63 * 63 + 5 * 5 + 2 * 2 + 1.
        table = single_cells([63, 5, 2, 1])
        self.assertTrue(is_let_by(table))
        answer = decide(table)
        self.assertEqual((answer[0], len(answer[1][0]), answer[1][1]), ("readable", 4000, []))
        self.assertIs(accepts_paper(table, answer[1]), True)

    def test_4001_tuples(self):
        for groups in ([63, 5, 2, 1, 1], [64], [80]):
            with self.subTest(groups), self.assertRaises(TooLarge) as caught:
                decide(single_cells(groups))
            self.assertEqual(caught.exception.limit, "pairs")

    def test_a_row_that_is_found_before(self):
        table = Table(SIGNS, 1, [Rule(0, SIGNS[k % 60], [1], 0) for k in range(80)])
        self.assertEqual(decide(table), ("same", [1], "0", "1"))

    def test_80_rules_that_are_readable(self):
        rules = [Rule(0, sign, [at // 8 + 1, at % 8], 0) for at, sign in enumerate(SIGNS)]
        rules.extend([Rule(0, SIGNS[k:k + 2], [k + 1, 8, 8], 0) for k in range(20)])
        table = Table(SIGNS, 1, rules)
        self.assertTrue(is_let_by(table))
        self.assertEqual(len(table.rules), 80)
        answer = decide(table)
        self.assertEqual(answer[0], "readable")
        self.assertIs(accepts_paper(table, answer[1]), True)
        for told in random.Random(3).sample(answer[1][0], 5):
            self.assertIs(accepts_paper(table, ([other for other in answer[1][0] if other != told], answer[1][1])), False)

    def test_80_rules_without_hope(self):
        rules = [Rule(0, SIGNS[k % 60], [1, 1, 1, 1], 0, behind=SIGNS[k % 59]) for k in range(80)]
        answer = decide(Table(SIGNS, 1, rules))
        self.assertEqual((answer[0], answer[1][0]), ("readable", [START]))
        self.assertIs(accepts_paper(Table(SIGNS, 1, rules), answer[1]), True)

    def test_many_rules_with_neighbours_of_their_own(self):
        rules = [Rule(0, "a", [1], 0, behind="a$" + SIGNS[k]) for k in range(1, 60)]
        answer = decide(Table(SIGNS, 1, rules))
        self.assertEqual((answer[0], len(answer[1][0])), ("readable", 1 + 59 * 59))
        self.assertIs(accepts_paper(Table(SIGNS, 1, rules), answer[1]), True)


if __name__ == "__main__":
    unittest.main()

"""Points 56 to 62, and the interface of sixdot/compare.py."""

import random
import unittest

import plain
import plain_compare
from sixdot.compare import accepts_cross_paper, agree, compare, useless_rules, without_rules
from sixdot.errors import TooLarge
from sixdot.reading import texts_of
from sixdot.table import Rule, Table, copy_of_rule, is_let_by
from sixdot.unique import decide
from sixdot.writing import writings

SIGNS = "abcdefghijklmnopqrstuvwxyzABCDEFGHIJKLMNOPQRSTUVWXYZ01234567"
BEGIN = (-1, 0)
START = (BEGIN, BEGIN, (0, ""))
FIRST_LISTS = ((BEGIN,), (BEGIN,))

PLAIN = [Rule(0, "a", [1], 0), Rule(0, "b", [2], 0)]


def table_of(*rules, signs="abc", modes=1):
    return Table(signs, modes, list(rules))


def ring(lengths):
    """Returns a table of rules that follow each other in a ring, with so many cells 1 each, and that cannot end."""
    many = len(lengths)
    return Table(SIGNS, 2, [
        Rule(int(at >= 60), SIGNS[at % 60], [1] * length, int(0 < (at + 1) % many and at + 1 >= 60),
             ahead=SIGNS[(at - 1) % many % 60] + ("^" if at == 0 else ""), behind=SIGNS[(at + 1) % many % 60])
        for at, length in enumerate(lengths)
    ])


class AgreeTest(unittest.TestCase):
    def check(self, first, second, row):
        found = agree(first, second, row)
        self.assertIs(agree(second, first, row), found)
        self.assertIs(plain_compare.agree(first, second, row), found)
        return found

    def test_no_text_in_both_or_in_one(self):
        one, other = table_of(*PLAIN), table_of(PLAIN[0], Rule(0, "c", [3], 0))
        self.assertIs(self.check(one, other, [4]), True)
        self.assertIs(self.check(one, other, [1, 4]), True)
        self.assertIs(self.check(one, other, [2]), False)
        self.assertIs(self.check(one, other, [1, 3]), False)

    def test_the_same_text_and_different_ones(self):
        one, other = table_of(*PLAIN), table_of(PLAIN[0], Rule(0, "c", [2], 0))
        self.assertIs(self.check(one, other, [1, 1]), True)
        self.assertIs(self.check(one, other, []), True)
        self.assertIs(self.check(one, other, [2]), False)
        # The same text by other rules.
        self.assertIs(self.check(one, table_of(*PLAIN, Rule(0, "ab", [1, 2], 0)), [1, 2, 1, 2]), True)

    def test_several_texts(self):
        one, other = table_of(*PLAIN), table_of(*PLAIN, Rule(0, "c", [2], 0))
        self.assertIs(self.check(one, other, [1]), True)
        self.assertIs(self.check(one, other, [2]), False)
        # The same several texts, too.
        self.assertIs(self.check(other, other, [2]), False)
        self.assertIs(self.check(other, other, [1, 1]), True)

    def test_tables_with_other_signs_and_modes(self):
        one = table_of(*PLAIN, signs="ab")
        other = table_of(Rule(0, "b", [2], 1), Rule(0, "a", [1], 1), Rule(1, "a", [1], 0), Rule(1, "b", [2], 0), signs="xba ", modes=3)
        for row in plain.rows([1, 2, 3], 4):
            self.assertIs(self.check(one, other, row), True)

    def test_too_many_texts(self):
        few = Table(SIGNS, 1, [Rule(0, sign, [1], 0) for sign in SIGNS[:22]])
        many = Table(SIGNS, 1, [Rule(0, sign, [1], 0) for sign in SIGNS[:23]])
        self.assertIs(agree(few, few, [1, 1]), False)
        for first, second in [(few, many), (many, few), (many, many), (many, table_of(*PLAIN)), (table_of(Rule(0, "a", [7], 0)), many)]:
            with self.assertRaises(TooLarge) as caught:
                agree(first, second, [1, 1])
            self.assertEqual(caught.exception.limit, "texts")


class CompareTest(unittest.TestCase):
    def same(self, first, second):
        """Returns the cross paper of two tables that write the same, when it was looked at."""
        told, paper = compare(first, second)
        self.assertEqual(told, "same")
        self.assertIs(accepts_cross_paper(first, second, paper), True)
        self.assertIs(plain_compare.accepts_cross_paper(first, second, paper), True)
        # Nothing is told twice, and pairs of two empty lists are not told at all.
        self.assertEqual([len(set(part)) for part in paper], [len(part) for part in paper])
        self.assertNotIn(((), ()), paper[0])
        for row in plain.rows(sorted({cell for rule in first.rules for cell in rule.cells} | {9}), 3):
            self.assertIs(plain_compare.agree(first, second, row), True)
        for told_table in (first, second):
            self.assertEqual(decide(told_table)[0], "readable")
        return paper

    def apart(self, first, second):
        """Returns what is told of the least row on which two tables do not agree."""
        told, row, texts, others = compare(first, second)
        self.assertEqual(told, "apart")
        self.assertEqual((texts, others), (plain.texts(first, row), plain.texts(second, row)))
        self.assertIs(plain_compare.agree(first, second, row), False)
        cells = sorted({cell for table in (first, second) for rule in table.rules for cell in rule.cells})
        for other in plain.rows(cells, min(len(row), 4)):
            if (len(other), other) < (len(row), row):
                self.assertIs(plain_compare.agree(first, second, other), True)
        self.assertEqual(compare(second, first), ("apart", row, others, texts))
        return row, texts, others

    def test_a_table_with_itself(self):
        for rules in [PLAIN, [], [Rule(0, "a", [1], 0), Rule(0, "b", [1, 2], 0)], [Rule(0, "ab", [1], 0, behind="c"), *PLAIN[1:]]]:
            table = table_of(*rules)
            self.same(table, table)
        lists, kept, hopeless = self.same(table_of(), table_of())
        self.assertEqual((lists, kept, hopeless), ([FIRST_LISTS], [START], []))

    def test_a_table_that_is_not_readable_with_itself(self):
        table = table_of(Rule(0, "a", [1], 0), Rule(0, "b", [1, 1], 0, behind="a"), Rule(0, "b", [2], 0))
        self.assertEqual(self.apart(table, table), ([1, 1, 1], ["aaa", "ba"], ["aaa", "ba"]))

    def test_rules_in_another_order_and_doubled(self):
        rules = [*PLAIN, Rule(0, "c", [3, 1], 0, ahead="^a"), Rule(0, "ab", [1, 2], 0, behind="b$")]
        table = table_of(*rules)
        self.same(table, table_of(*rules[::-1]))
        self.same(table, table_of(*rules, *rules))
        self.same(table_of(*rules, rules[0]), table)

    def test_one_rule_more_and_one_fewer(self):
        table = table_of(*PLAIN)
        self.assertEqual(self.apart(table, table_of(*PLAIN, Rule(0, "c", [3], 0))), ([3], [], ["c"]))
        self.assertEqual(self.apart(table, table_of(PLAIN[0])), ([2], ["b"], []))
        # A rule that adds nothing, one that adds a text, one that adds a writing of the same text.
        self.same(table, table_of(*PLAIN, Rule(0, "ab", [1, 2], 0)))
        self.assertEqual(self.apart(table, table_of(*PLAIN, Rule(0, "c", [1, 2], 0))), ([1, 2], ["ab"], ["ab", "c"]))
        self.assertEqual(self.apart(table, table_of(*PLAIN, Rule(0, "ab", [3], 0))), ([3], [], ["ab"]))

    def test_other_signs_and_modes(self):
        one = table_of(*PLAIN, signs="ab")
        other = table_of(Rule(0, "b", [2], 1), Rule(0, "a", [1], 1), Rule(1, "a", [1], 0), Rule(1, "b", [2], 0), signs="xba ", modes=3)
        self.same(one, other)
        self.same(other, one)
        other.rules.pop()
        self.assertEqual(self.apart(one, other), ([1, 2], ["ab"], []))

    def test_the_shortest_row_and_the_least_of_its_length(self):
        # A short row with greater cells goes before a longer one with lesser cells.
        more = [Rule(0, "c", [1, 1, 1], 0, behind="$"), Rule(0, "c", [5], 0, behind="c"), Rule(0, "c", [0, 4], 0), Rule(0, "c", [6, 2], 0)]
        table = table_of(*PLAIN)
        self.assertEqual(self.apart(table, table_of(*PLAIN, *more)), ([0, 4], [], ["c"]))
        self.assertEqual(self.apart(table, table_of(*PLAIN, *more[:2])), ([1, 1, 1], ["aaa"], ["aaa", "c"]))
        self.assertEqual(self.apart(table, table_of(*PLAIN, *more[:1], more[3])), ([6, 2], [], ["c"]))
        self.assertEqual(self.apart(table, table_of(*PLAIN, Rule(0, "c", [7], 0), Rule(0, "c", [2], 0))), ([2], ["b"], ["b", "c"]))
        self.assertEqual(self.apart(table, table_of(*PLAIN, Rule(0, "c", [7], 0), Rule(0, "c", [63], 0))), ([7], [], ["c"]))

    def test_neighbours_and_ends(self):
        self.assertEqual(self.apart(table_of(*PLAIN), table_of(PLAIN[0], Rule(0, "b", [2], 0, ahead="a"))), ([2], ["b"], []))
        self.assertEqual(self.apart(table_of(*PLAIN), table_of(PLAIN[0], Rule(0, "b", [2], 0, ahead="^a"))), ([2, 2], ["bb"], []))
        self.assertEqual(self.apart(table_of(*PLAIN), table_of(PLAIN[0], Rule(0, "b", [2], 0, behind="ab"))), ([2], ["b"], []))
        self.same(table_of(*PLAIN), table_of(PLAIN[0], Rule(0, "b", [2], 0, behind="ab$")))
        self.same(table_of(*PLAIN, signs="ab"), table_of(PLAIN[0], Rule(0, "b", [2], 0, ahead="ba^c")))

    def test_leads_of_both_sides(self):
        one = table_of(Rule(0, "ab", [1], 1), Rule(1, "c", [2], 0), modes=2)
        other = table_of(Rule(0, "a", [1], 1, behind="b"), Rule(1, "bc", [2], 0), modes=2)
        self.assertEqual(self.apart(one, other), ([1], ["ab"], []))
        one.rules[0].behind = "c"
        lists, kept, hopeless = self.same(one, other)
        self.assertIn(((0, 1), (0, 1), (0, "b")), kept)
        self.assertIn(((0, 1), (0, 1), (1, "b")), self.same(other, one)[1])

    def test_tables_by_chance(self):
        told = [0, 0]
        for seed in range(400):
            chance = random.Random(seed)
            first = plain.made_table(chance, most_rules=4)
            rules = list(first.rules)
            change = chance.randrange(4)
            if change == 0:
                rules.append(chance.choice(plain.made_table(chance).rules))
            elif change == 1:
                rules.pop(chance.randrange(len(rules)))
            chance.shuffle(rules)
            rules = [copy_of_rule(rule) for rule in rules if max(rule.mode, rule.to) < first.modes]
            second = Table("bza", first.modes, rules)
            rows = plain.rows(range(3), 4)
            bad = [row for row in rows if not plain_compare.agree(first, second, row)]
            answer = compare(first, second)
            if answer[0] == "same":
                self.assertEqual(bad, [])
                self.check_paper(chance, first, second, answer[1])
            else:
                _, row, texts, others = answer
                self.assertEqual((texts, others), (plain.texts(first, row), plain.texts(second, row)))
                self.assertIs(plain_compare.agree(first, second, row), False)
                self.assertEqual([row] if len(row) <= 4 else [], bad[:1])
            for row in chance.sample(rows, 5):
                self.assertIs(agree(first, second, row), plain_compare.agree(first, second, row))
            told[answer[0] == "same"] += 1
        self.assertGreater(min(told), 60)

    def check_paper(self, chance, first, second, paper):
        self.assertIs(accepts_cross_paper(first, second, paper), True)
        spots, others = plain.spots(first), plain.spots(second)
        for _ in range(4):
            changed = [list(part) for part in paper]
            part = chance.choice(changed)
            if part and chance.random() < 0.5:
                part.pop(chance.randrange(len(part)))
            elif part is changed[0]:
                part.append((tuple(chance.sample(spots, min(2, len(spots)))), tuple(chance.sample(others, min(1, len(others))))))
            elif part is changed[1]:
                part.append((chance.choice(spots), chance.choice(others), (chance.randint(0, 2), chance.choice(["", "a"]))))
            else:
                part.append((chance.choice(spots), chance.choice(others)))
            wanted = plain_compare.accepts_cross_paper(first, second, tuple(changed))
            self.assertIs(accepts_cross_paper(first, second, tuple(changed)), wanted)

    def test_more_than_4000_pairs_of_lists(self):
        # 31 * 3 and 43 cells around: the pair at the beginning and 3999 others. None of the two has a text.
        first, second = ring([3] * 31), ring([1] * 43)
        lists, kept, hopeless = compare(first, second)[1]
        self.assertEqual((len(lists), kept), (4000, [START]))
        self.assertIs(accepts_cross_paper(first, second, (lists, kept, hopeless)), True)
        # 32 and 125 cells around: 4000 others.
        first, second = ring([1] * 32), ring([4] * 31 + [1])
        with self.assertRaises(TooLarge) as caught:
            compare(first, second)
        self.assertEqual(caught.exception.limit, "pairs")

    def test_more_than_4000_crossed_pairs(self):
        def single(*groups):
            return Table(SIGNS, 1, [Rule(0, SIGNS[at], [at + 1], 0) for at, many in enumerate(groups) for _ in range(many)])

        # The one at the beginning, and 63 * 63 + 5 * 6 or 50 * 80 others.
        first, second = single(63, 5), single(63, 6)
        told, paper = compare(first, second)
        self.assertEqual((told, len(paper[1])), ("same", 4000))
        self.assertIs(accepts_cross_paper(first, second, paper), True)
        with self.assertRaises(TooLarge) as caught:
            compare(single(50), single(80))
        self.assertEqual(caught.exception.limit, "pairs")

    def test_a_row_that_is_found_ahead_of_too_many_pairs(self):
        first, second = ring([1] * 32), ring([4] * 31 + [1])
        first.rules.append(Rule(0, "a", [2], 0))
        self.assertEqual(compare(first, second), ("apart", [2], ["a"], []))

    def test_more_than_500_texts(self):
        def tall(*many):
            """So many signs for each of three cells 1; only behind the third one a text can end."""
            rules = [
                Rule(mode, sign, [1], mode + 1, behind=None if mode == 2 else SIGNS)
                for mode, number in enumerate(many) for sign in SIGNS[:number]
            ]
            return Table(SIGNS, 4, rules)

        one = tall(1, 1, 1)
        told, row, texts, others = compare(one, tall(5, 10, 10))
        self.assertEqual((told, row, texts, len(others)), ("apart", [1, 1, 1], ["aaa"], 500))
        for first, second in [(one, tall(3, 12, 14)), (tall(3, 12, 14), one), (tall(8, 8, 8), tall(8, 8, 8))]:
            with self.assertRaises(TooLarge) as caught:
                compare(first, second)
            self.assertEqual(caught.exception.limit, "texts")

    def test_large_tables(self):
        rules = [Rule(0, sign, [at // 8 + 1, at % 8], 0) for at, sign in enumerate(SIGNS)]
        rules.extend([Rule(0, SIGNS[k:k + 2], [k + 1, 8, 8], 0) for k in range(20)])
        table = Table(SIGNS, 1, rules)
        self.assertTrue(is_let_by(table))
        told, paper = compare(table, Table(SIGNS[::-1], 1, rules[::-1]))
        self.assertEqual(told, "same")
        self.assertIs(accepts_cross_paper(table, Table(SIGNS[::-1], 1, rules[::-1]), paper), True)

    def test_what_is_passed_does_not_change_and_what_is_returned_is_new(self):
        first, second = table_of(*PLAIN), table_of(*PLAIN[::-1])
        before = plain.state_of(first), plain.state_of(second)
        paper = compare(first, second)[1]
        kept = [list(part) for part in paper]
        self.assertIs(accepts_cross_paper(first, second, paper), True)
        self.assertEqual([list(part) for part in paper], kept)
        for part in paper:
            part.clear()
        useless_rules(first).clear()
        without_rules(first, [0]).rules.clear()
        self.assertEqual([list(part) for part in compare(first, second)[1]], kept)
        self.assertEqual((plain.state_of(first), plain.state_of(second)), before)


class PaperTest(unittest.TestCase):
    def setUp(self):
        # With hopeless crossed pairs, leads of both sides, and pairs of lists of several spots.
        self.first = table_of(
            Rule(0, "ab", [1], 1, behind="c"), Rule(1, "c", [2], 0), Rule(0, "a", [1, 3], 0), Rule(0, "b", [1, 4], 0), modes=2,
        )
        self.second = table_of(
            Rule(0, "a", [1], 1, behind="b"), Rule(1, "bc", [2], 0), Rule(0, "b", [1, 4], 0), Rule(0, "a", [1, 3], 0), modes=2,
        )
        self.paper = compare(self.first, self.second)[1]

    def accepts(self, *paper):
        found = accepts_cross_paper(self.first, self.second, paper)
        self.assertIs(found, plain_compare.accepts_cross_paper(self.first, self.second, paper))
        return found

    def test_a_paper_that_is_told(self):
        lists, kept, hopeless = self.paper
        self.assertIs(self.accepts(*self.paper), True)
        self.assertTrue(min(len(lists), len(kept), len(hopeless)) > 3)
        self.assertIs(self.accepts(lists[::-1], kept[::-1], hopeless[::-1]), True)
        self.assertTrue(any(len(spots) > 1 for spots, _ in lists))

    def test_items_left_out(self):
        for part in range(3):
            for item in self.paper[part]:
                paper = list(self.paper)
                paper[part] = [other for other in paper[part] if other != item]
                self.assertIs(self.accepts(*paper), False)
            paper = list(self.paper)
            paper[part] = []
            self.assertIs(self.accepts(*paper), False)

    def test_items_doubled(self):
        for part in range(3):
            for item in self.paper[part]:
                paper = list(self.paper)
                paper[part] = [item, *paper[part], item]
                self.assertIs(self.accepts(*paper), True)

    def test_another_lead(self):
        lists, kept, hopeless = self.paper
        for at, (one, other, lead) in enumerate(kept):
            for wrong in [(0, "c"), (1, "b"), (0, "b"), (1, "cc"), (0, "")]:
                if wrong != lead:
                    self.assertIs(self.accepts(lists, kept[:at] + [(one, other, wrong)] + kept[at + 1:], hopeless), False)

    def test_spots_that_are_none(self):
        lists, kept, hopeless = self.paper
        self.assertIs(self.accepts(lists + [((), ())], kept, hopeless), True)
        for spot in [(4, 1), (0, 2), (0, 0), (-1, 1), (-2, 0), (3, 3), (10 ** 30, 1), (2, -1), (-1, -1)]:
            for pair in [((spot,), ()), ((), (spot,)), ((spot, (20, 1)), ((0, 1),))]:
                self.assertIs(self.accepts(lists + [pair], kept, hopeless), False)
            for pair in [(spot, (0, 1)), ((0, 1), spot)]:
                self.assertIs(self.accepts(lists, kept, hopeless + [pair]), False)
                self.assertIs(self.accepts(lists, kept + [(*pair, (0, ""))], hopeless), False)

    def test_spots_of_the_other_table(self):
        lists, kept, hopeless = self.paper
        more = table_of(*self.first.rules, Rule(1, "a", [9], 1, behind="b"), modes=2)
        paper = compare(more, self.second)[1]
        self.assertIs(accepts_cross_paper(more, self.second, paper), True)
        for changed in [(lists, kept, hopeless + [((4, 1), (0, 1))]), (lists + [(((4, 1),), ())], kept, hopeless)]:
            self.assertIs(accepts_cross_paper(more, self.second, changed), True)
        for changed in [(lists, kept, hopeless + [((0, 1), (4, 1))]), (lists + [((), ((4, 1),))], kept, hopeless)]:
            self.assertIs(accepts_cross_paper(more, self.second, changed), False)

    def test_leads_that_are_none(self):
        lists, kept, hopeless = self.paper
        for lead in [(1, ""), (2, "a"), (-1, ""), (2, ""), (10 ** 30, "a")]:
            self.assertIs(self.accepts(lists, kept + [((2, 1), (2, 1), lead)], hopeless), False)

    def test_further_items(self):
        lists, kept, hopeless = self.paper
        # Of a pair that goes on to nothing but what is told.
        self.assertIs(self.accepts(lists, kept + [((2, 1), (3, 1), (1, "zzz"))], hopeless), False)
        self.assertIs(self.accepts(lists, kept, hopeless + [((2, 1), (2, 1))]), True)
        self.assertIs(self.accepts(lists, kept, hopeless + [((2, 1), (3, 1))]), False)
        self.assertIs(self.accepts(lists, kept, hopeless + [(BEGIN, BEGIN)]), False)
        self.assertIs(self.accepts(lists, kept + [((2, 2), (3, 2), (0, "a"))], hopeless), False)
        self.assertIs(self.accepts(lists + [(((2, 2),), ())], kept, hopeless), False)
        self.assertIs(self.accepts(lists + [(((0, 1),), ((0, 1),))], kept, hopeless), True)
        self.assertIs(self.accepts(lists + [(((0, 1),), ())], kept, hopeless), False)

    def test_lists_that_are_not_ascending_or_not_the_due_ones(self):
        lists, kept, hopeless = self.paper
        for at, (spots, others) in enumerate(lists):
            for changed in [(spots[::-1], others), (spots, others[::-1]), (spots + spots[:1], others), (spots[1:], others), (spots, others[1:]),
                            (others, spots)]:
                if changed != (spots, others):
                    self.assertIs(self.accepts(lists[:at] + [changed] + lists[at + 1:], kept, hopeless), False)
            if len(spots) > 1:
                self.assertIs(self.accepts(lists + [(spots[::-1], others)], kept, hopeless), False)
            if spots and spots != (BEGIN,):
                self.assertIs(self.accepts(lists + [(spots * 2, others)], kept, hopeless), False)

    def test_papers_of_other_tables(self):
        for first, second in [(self.second, self.first), (self.first, self.first), (self.second, self.second)]:
            self.assertIs(accepts_cross_paper(first, second, self.paper), False)
            self.assertIs(plain_compare.accepts_cross_paper(first, second, self.paper), False)
        apart = table_of(*PLAIN), table_of(PLAIN[0])
        self.assertIs(accepts_cross_paper(*apart, compare(apart[1], apart[1])[1]), False)
        self.assertIs(accepts_cross_paper(*apart, ([FIRST_LISTS], [START], [])), False)
        self.assertIs(accepts_cross_paper(table_of(), table_of(), ([FIRST_LISTS], [START], [])), True)


class UselessTest(unittest.TestCase):
    def check(self, table, wanted):
        before = plain.state_of(table)
        self.assertEqual(useless_rules(table), wanted)
        self.assertEqual([k for k in range(len(table.rules)) if k not in plain_compare.useful_rules(table)], wanted)
        rest = without_rules(table, wanted)
        self.assertEqual(useless_rules(rest), [])
        self.assertEqual(plain.state_of(table), before)
        for row in plain.rows([1, 2, 3], 3):
            self.assertEqual(texts_of(rest, row), texts_of(table, row))

    def test_no_useless_rule(self):
        self.check(table_of(*PLAIN), [])
        self.check(table_of(), [])
        self.check(table_of(*PLAIN, PLAIN[0]), [])
        self.check(table_of(Rule(0, "a", [1], 1), Rule(1, "b", [2], 0), modes=2), [])

    def test_modes_that_no_beginning_reaches(self):
        self.check(table_of(*PLAIN, Rule(1, "c", [3], 0), modes=2), [2])
        self.check(table_of(*PLAIN, Rule(1, "c", [3], 2), Rule(2, "c", [3], 1), modes=3), [2, 3])

    def test_rules_from_which_no_end_is_reached(self):
        self.check(table_of(*PLAIN, Rule(0, "c", [3], 1, behind="ab"), modes=2), [2])
        self.check(table_of(*PLAIN, Rule(0, "c", [3], 1, behind="ab"), Rule(1, "a", [3], 1, behind="a"), modes=2), [2, 3])
        # Its text can end there.
        self.check(table_of(*PLAIN, Rule(0, "c", [3], 1, behind="ab$"), modes=2), [])

    def test_neighbours_that_are_never_there(self):
        self.check(table_of(*PLAIN, Rule(0, "b", [3], 0, ahead="c")), [2])
        self.check(table_of(*PLAIN, Rule(0, "b", [3], 0, behind="c")), [2])
        self.check(table_of(*PLAIN, Rule(0, "b", [3], 0, ahead="^"), Rule(0, "a", [3], 0, behind="$")), [])
        # At the beginning alone, but in a mode that no beginning has.
        self.check(table_of(Rule(0, "a", [1], 1), Rule(1, "b", [2], 0, ahead="^"), modes=2), [1])
        # The last sign of the text counts, and the first one.
        self.check(table_of(Rule(0, "ab", [1], 0, behind="c$"), Rule(0, "c", [2], 0, ahead="a")), [1])
        self.check(table_of(Rule(0, "ab", [1], 0, behind="c$"), Rule(0, "c", [2], 0, ahead="b")), [])
        self.check(table_of(Rule(0, "a", [1], 0, behind="c"), Rule(0, "bc", [2], 0)), [0])

    def test_two_rules_that_only_use_each_other(self):
        self.check(table_of(*PLAIN, Rule(0, "c", [3], 0, ahead="d"), Rule(0, "d", [4], 0, ahead="c"), signs="abcd"), [2, 3])
        self.check(table_of(*PLAIN, Rule(0, "c", [3], 0, behind="d"), Rule(0, "d", [4], 0, behind="c"), signs="abcd"), [2, 3])
        self.check(table_of(*PLAIN, Rule(0, "c", [3], 0, behind="d"), Rule(0, "d", [4], 0, behind="c$"), signs="abcd"), [])

    def test_a_table_of_useless_rules_alone(self):
        self.check(table_of(Rule(1, "a", [1], 0), Rule(0, "b", [2], 0, behind="b"), Rule(0, "c", [3], 0, ahead="c"), modes=2), [0, 1, 2])

    def test_tables_by_chance(self):
        found = 0
        for seed in range(400):
            table = plain.made_table(random.Random(seed))
            useless = useless_rules(table)
            self.check(table, useless)
            found += 0 < len(useless) < len(table.rules)
            for text in ("ab", "aab", "bba"):
                self.assertEqual(writings(without_rules(table, useless), text), writings(table, text))
        self.assertGreater(found, 60)

    def test_without_rules(self):
        rules = [*PLAIN, Rule(0, "c", [3, 4], 1, ahead="^a", behind="b$")]
        table = table_of(*rules, modes=2)
        for numbers, wanted in [([], [0, 1, 2]), ([1], [0, 2]), ([2, 0], [1]), ([0, 1, 2], [])]:
            rest = without_rules(table, numbers)
            self.assertIsInstance(rest, Table)
            self.assertEqual(plain.state_of(rest), plain.state_of(Table("abc", 2, [rules[k] for k in wanted])))
        # What is returned is new.
        rest = without_rules(table, [])
        rest.rules[2].cells.append(9)
        rest.rules[2].text = "b"
        rest.rules.clear()
        self.assertEqual(plain.state_of(table), plain.state_of(table_of(*rules, modes=2)))


if __name__ == "__main__":
    unittest.main()

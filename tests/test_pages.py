"""Points 34, 35 and 36, and the interface of sixdot/pages.py."""

import random
import unittest

import plain
from sixdot.errors import NoLayout
from sixdot.pages import accepts_prices, make_prices, may_end, page_ends

HEAD, PAR, ITEM, NOTE, BREAK = ("head", "a"), ("par", "a"), ("item", 2, "a"), ("note", 7, "a"), ("break",)


def made_lines(chance, most=12):
    """Returns a list of blocks, and one of the numbers of their lines, made by chance."""
    blocks, lines = [], []
    while not blocks or (sum(lines) < most and chance.random() < 0.85):
        blocks.append(chance.choice([HEAD, PAR, PAR, ITEM, NOTE, BREAK]))
        lines.append(1 if blocks[-1] == BREAK else chance.choice([1, 1, 2, 3, 4, 5]))
    return blocks, lines


class MayEndTest(unittest.TestCase):
    def ends(self, blocks, lines):
        return [at for at in range(1, sum(lines) + 1) if may_end(blocks, lines, at) is True]

    def test_blocks_of_one_two_three_and_many_lines(self):
        for block in (PAR, ITEM, NOTE):
            for many, wanted in [(1, [1]), (2, [2]), (3, [3]), (4, [2, 4]), (5, [2, 3, 5]), (8, [2, 3, 4, 5, 6, 8])]:
                # At the end of the book, and in the middle of it.
                self.assertEqual(self.ends([block], [many]), wanted)
                self.assertEqual(self.ends([block, PAR], [many, 1]), wanted + [many + 1])
                self.assertEqual(self.ends([PAR, block], [1, many]), [1] + [at + 1 for at in wanted])

    def test_heads(self):
        for many in (1, 2, 3, 4, 8):
            self.assertEqual(self.ends([HEAD, PAR], [many, 1]), [many + 1])
            self.assertEqual(self.ends([HEAD, BREAK], [many, 1]), [many + 1])
            self.assertEqual(self.ends([HEAD, HEAD], [many, 2]), [many + 2])
            # Behind the last line of the book a page may end.
            self.assertEqual(self.ends([HEAD], [many]), [many])

    def test_breaks(self):
        self.assertEqual(self.ends([BREAK], [1]), [1])
        self.assertEqual(self.ends([BREAK, BREAK, PAR, BREAK], [1, 1, 2, 1]), [1, 2, 4, 5])

    def test_texts_that_are_words_of_blocks(self):
        self.assertEqual(self.ends([("par", "head"), ("par", "break")], [1, 4]), [1, 3, 5])
        self.assertEqual(self.ends([("head", "break"), ("head", "par")], [1, 1]), [2])
        self.assertEqual(page_ends(5, [("par", "break"), ("item", 1, "break"), PAR], [1, 1, 1]), [3])

    def test_by_chance(self):
        for seed in range(300):
            blocks, lines = made_lines(random.Random(seed), 30)
            for at in range(1, sum(lines) + 1):
                self.assertIs(may_end(blocks, lines, at), plain.page_may_end(blocks, lines, at))


class PageEndsTest(unittest.TestCase):
    def check(self, height, blocks, lines):
        """Compares the pages with all other ones; returns them, or the line that NoLayout names as a negative number."""
        ways = plain.pagings(height, blocks, lines)
        if not ways:
            for function in (page_ends, make_prices):
                with self.assertRaises(NoLayout) as caught:
                    function(height, blocks, lines)
                self.assertEqual(caught.exception.line, plain.last_beginning(height, blocks, lines))
            return -caught.exception.line
        least = min(plain.page_sum(height, blocks, lines, way) for way in ways)
        wanted = max(way for way in ways if plain.page_sum(height, blocks, lines, way) == least)
        ends = page_ends(height, blocks, lines)
        self.assertEqual(ends, wanted)
        prices = make_prices(height, blocks, lines)
        self.assertEqual((len(prices), prices[0], prices[-1]), (sum(lines) + 1, least, 0))
        self.assertIs(accepts_prices(height, blocks, lines, ends, prices), True)
        self.assertTrue(plain.accepts_prices(height, blocks, lines, ends, prices))
        return ends

    def test_one_block(self):
        self.assertEqual(self.check(5, [PAR], [1]), [1])
        self.assertEqual(self.check(5, [PAR], [4]), [4])
        self.assertEqual(self.check(5, [PAR], [5]), [3, 5])
        self.assertEqual(self.check(5, [PAR], [6]), [4, 6])
        self.assertEqual(self.check(5, [PAR], [9]), [4, 7, 9])
        self.assertEqual(self.check(5, [HEAD], [4]), [4])
        self.assertEqual(self.check(5, [BREAK], [1]), [1])

    def test_breaks(self):
        self.assertEqual(self.check(5, [PAR, BREAK, PAR], [2, 1, 2]), [3, 5])
        self.assertEqual(self.check(5, [BREAK, BREAK], [1, 1]), [1, 2])
        self.assertEqual(self.check(5, [PAR, BREAK, PAR], [4, 1, 4]), [4, 5, 9])
        # A page that ends with a break costs nothing: so the first one takes as many lines as it can.
        self.assertEqual(self.check(5, [PAR] * 5 + [BREAK, PAR], [1] * 7), [4, 6, 7])

    def test_lines_that_are_kept_together(self):
        self.assertEqual(self.check(5, [PAR, HEAD, PAR], [3, 1, 2]), [3, 6])
        self.assertEqual(self.check(5, [PAR, PAR], [3, 2]), [3, 5])
        self.assertEqual(self.check(5, [PAR, PAR], [2, 3]), [2, 5])
        self.assertEqual(self.check(5, [PAR, PAR], [2, 4]), [4, 6])

    def test_equal_costs(self):
        self.assertEqual(self.check(5, [PAR] * 6, [1] * 6), [4, 6])
        self.assertEqual(self.check(4, [PAR, PAR, PAR, PAR], [2, 1, 2, 2]), [3, 5, 7])
        ties = 0
        for seed in range(300):
            chance = random.Random(seed)
            blocks, lines = made_lines(chance, 12)
            height = chance.randint(4, 6)
            sums = [plain.page_sum(height, blocks, lines, way) for way in plain.pagings(height, blocks, lines)]
            if sums.count(min(sums, default=0)) > 1:
                ties += 1
                self.check(height, blocks, lines)
        self.assertGreater(ties, 20)

    def test_no_way(self):
        self.assertEqual(self.check(3, [PAR], [3]), 0)
        self.assertEqual(self.check(5, [HEAD], [5]), 0)
        self.assertEqual(self.check(5, [HEAD, PAR], [4, 1]), 0)
        self.assertEqual(self.check(3, [PAR, PAR, PAR], [2, 1, 3]), -3)
        self.assertEqual(self.check(4, [PAR, PAR, HEAD, PAR], [2, 5, 2, 2]), -7)
        self.assertEqual(self.check(3, [PAR, BREAK, HEAD, BREAK, PAR], [1, 1, 1, 1, 3]), -4)

    def test_no_way_though_later_lines_are_reached(self):
        # Pages can begin at the lines 2, 3, 4 and 6, and nothing leads on from the last one.
        self.assertEqual(self.check(4, [PAR, HEAD, HEAD, HEAD], [6, 1, 1, 2]), -6)

    def test_by_chance(self):
        found = {True: 0, False: 0}
        for seed in range(500):
            chance = random.Random(seed)
            blocks, lines = made_lines(chance)
            ends = self.check(chance.randint(3, 7), blocks, lines)
            found[isinstance(ends, list)] += 1
        self.assertGreater(min(found.values()), 100)

    def test_many_lines(self):
        blocks, lines = [HEAD, PAR, BREAK, NOTE] * 50, [2, 150, 1, 5] * 50
        ends = page_ends(30, blocks, lines)
        prices = make_prices(30, blocks, lines)
        self.assertIs(accepts_prices(30, blocks, lines, ends, prices), True)
        self.assertEqual(prices[0], plain.page_sum(30, blocks, lines, ends))

    def test_no_blocks(self):
        self.assertEqual((page_ends(5, [], []), make_prices(5, [], [])), ([], [0]))
        self.assertIs(accepts_prices(5, [], [], [], [0]), True)

    def test_what_is_passed_does_not_change(self):
        blocks, lines = [HEAD, PAR, BREAK], [1, 8, 1]
        ends, prices = page_ends(5, blocks, lines), make_prices(5, blocks, lines)
        kept = (list(ends), list(prices))
        accepts_prices(5, blocks, lines, ends, prices)
        may_end(blocks, lines, 3)
        self.assertEqual((blocks, lines, (ends, prices)), ([HEAD, PAR, BREAK], [1, 8, 1], kept))
        ends.clear()
        prices.clear()
        self.assertEqual((page_ends(5, blocks, lines), make_prices(5, blocks, lines)), kept)


class PricesTest(unittest.TestCase):
    def setUp(self):
        self.blocks = [HEAD, PAR, PAR, BREAK, ITEM]
        self.lines = [1, 2, 4, 1, 3]
        self.ends = page_ends(5, self.blocks, self.lines)
        self.prices = make_prices(5, self.blocks, self.lines)

    def accepts(self, ends, prices):
        found = accepts_prices(5, self.blocks, self.lines, ends, prices)
        self.assertIs(found, plain.accepts_prices(5, self.blocks, self.lines, ends, prices))
        return found

    def test_the_made_ones(self):
        self.assertEqual(self.ends, [3, 7, 8, 11])
        self.assertEqual(self.prices[0], 1)
        self.assertIs(self.accepts(self.ends, self.prices), True)

    def test_one_number_changed(self):
        for at in range(12):
            for change in (1, -1, 100, -100):
                prices = list(self.prices)
                prices[at] += change
                found = self.accepts(self.ends, prices)
                if at in [0, *self.ends]:
                    self.assertIs(found, False)

    def test_the_price_of_the_end(self):
        self.assertIs(self.accepts(self.ends, [price + 1 for price in self.prices]), False)
        self.assertIs(self.accepts(self.ends, [price - 1 for price in self.prices]), False)

    def test_prices_that_are_too_low_alike(self):
        # All that fails is that the last page costs as much as its prices differ.
        prices = [price - 1 for price in self.prices[:-1]] + [0]
        self.assertIs(self.accepts(self.ends, prices), False)

    def test_other_pages(self):
        for ends in [
            [3, 8, 11], [7, 8, 11], [3, 7, 11], [3, 7, 8], [3, 4, 7, 8, 11], [3, 5, 7, 8, 11], [1, 3, 7, 8, 11],
            [3, 6, 8, 11], [2, 7, 8, 11], [3, 7, 8, 10, 11], [3, 7, 7, 8, 11], [3, 7, 8, 11, 11], [3, 7, 8, 11, 12],
            [3, 8, 7, 11], [11], [0, 3, 7, 8, 11], [], [-1], [3, 7, 8, 11, 3], [3, 5, 8, 11], [11, 8, 7, 3], [3, -5, 8, 11],
            [10 ** 30], [3, 7, 8, 12], [3, 3, 7, 8, 11],
        ]:
            with self.subTest(ends):
                self.assertIs(self.accepts(ends, self.prices), False)

    def test_other_pages_of_the_same_cost(self):
        blocks, lines = [PAR] * 6, [1] * 6
        prices = make_prices(5, blocks, lines)
        self.assertIs(accepts_prices(5, blocks, lines, [4, 6], prices), True)
        self.assertIs(accepts_prices(5, blocks, lines, [3, 6], prices), False)
        blocks, lines = [PAR] * 7, [1] * 7
        prices = make_prices(4, blocks, lines)
        self.assertEqual(page_ends(4, blocks, lines), [3, 6, 7])
        self.assertIs(accepts_prices(4, blocks, lines, [3, 6, 7], prices), True)
        self.assertIs(accepts_prices(4, blocks, lines, [3, 5, 7], prices), False)
        blocks, lines = [PAR] * 8, [1] * 8
        prices = make_prices(4, blocks, lines)
        self.assertIs(accepts_prices(4, blocks, lines, [3, 6, 8], prices), True)

    def test_empty_lists(self):
        self.assertIs(self.accepts([], []), False)
        self.assertIs(self.accepts([], self.prices), False)
        self.assertIs(self.accepts(self.ends, []), False)

    def test_lists_of_prices_that_are_too_long_or_too_short(self):
        self.assertIs(self.accepts(self.ends, self.prices[:-1]), False)
        self.assertIs(self.accepts(self.ends, self.prices[1:]), False)
        self.assertIs(self.accepts(self.ends, self.prices + [0]), False)
        self.assertIs(self.accepts(self.ends, [0] + self.prices), False)

    def test_lines_ahead_of_which_no_page_may_end_count_too(self):
        # No page may end ahead of the line 2; a page that begins there is looked at all the same.
        prices = list(self.prices)
        prices[2] = prices[3] + 10
        self.assertIs(self.accepts(self.ends, prices), False)

    def test_by_chance(self):
        answers = {True: 0, False: 0}
        for seed in range(400):
            chance = random.Random(seed)
            blocks, lines = made_lines(chance, 9)
            height = chance.randint(4, 6)
            ways = plain.pagings(height, blocks, lines)
            if ways:
                ends = list(chance.choice(ways)) if chance.random() < 0.5 else page_ends(height, blocks, lines)
                prices = make_prices(height, blocks, lines)
                if chance.random() < 0.5:
                    prices[chance.randrange(len(prices))] += chance.choice([-1, 1, -7])
                if chance.random() < 0.2:
                    ends[chance.randrange(len(ends))] += chance.choice([-1, 1])
                found = accepts_prices(height, blocks, lines, ends, prices)
                self.assertIs(found, plain.accepts_prices(height, blocks, lines, ends, prices))
                answers[found] += 1
                if found:
                    self.assertEqual(min(plain.page_sum(height, blocks, lines, way) for way in ways),
                                     plain.page_sum(height, blocks, lines, ends))
        self.assertGreater(min(answers.values()), 50)


if __name__ == "__main__":
    unittest.main()

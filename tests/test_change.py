"""Points 45 to 49, and the interface of sixdot/change.py."""

import random
import unittest

import plain
import plain_change
from sixdot.back import form_fault, is_layout, read_back
from sixdot.change import Change, accepts_bounds, labels_between, least_size, make_bounds, renew
from sixdot.errors import NoLayout, NoWriting
from sixdot.places import leads_to, places, rows_of
from sixdot.shape import Marks, Shape
from sixdot.stretches import Stretches
from sixdot.table import Book, Rule, Table
from sixdot.unique import decide
from sixdot.volumes import lay_out

MARKS = Marks([60], [61], [[62, 1], [62, 2], [62, 3]], [63], [59], [58], [57], [56])
# Two lines of the book on a page.
SHAPE = Shape(8, 3, 2, MARKS)
# Readable; the last sign has no writing.
TABLE = Table("0123456789x", 1, [Rule(0, digit, [int(digit)], 0) for digit in "0123456789"])


def sheets_of(volumes):
    return [sheet for volume in volumes for sheet in volume]


def labels_of(volumes):
    return [sheet[0] for sheet in sheets_of(volumes)]


def pars(*texts):
    return Book([("par", text) for text in texts])


def sheet(label, front, back=()):
    """Returns a sheet with these lines of the book, and the number lines that are due."""
    number = (56, *plain.pressed_label(label))
    return label, (*front, number), (*back, number) if back else ()


class LabelsTest(unittest.TestCase):
    def test_between(self):
        for before, after, labels in [
            (None, None, [(1,), (2,), (3,)]),
            (None, (1,), [(0, 1), (0, 2), (0, 3)]), (None, (7, 1), [(0, 1), (0, 2), (0, 3)]),
            (None, (0, 1), [(0, 0, 1), (0, 0, 2), (0, 0, 3)]), (None, (0, 0, 4), [(0, 0, 0, 1), (0, 0, 0, 2), (0, 0, 0, 3)]),
            ((1,), (2,), [(1, 1), (1, 2), (1, 3)]), ((1,), (1, 1), [(1, 0, 1), (1, 0, 2), (1, 0, 3)]),
            ((1,), (1, 5), [(1, 0, 1), (1, 0, 2), (1, 0, 3)]),
            ((1,), (1, 0, 1), [(1, 0, 0, 1), (1, 0, 0, 2), (1, 0, 0, 3)]),
            ((1,), (1, 0, 0, 9), [(1, 0, 0, 0, 1), (1, 0, 0, 0, 2), (1, 0, 0, 0, 3)]),
            # The zeros that count are those directly behind.
            ((1,), (1, 2, 0, 1), [(1, 0, 1), (1, 0, 2), (1, 0, 3)]),
            ((1, 2), (1, 2, 0, 3), [(1, 2, 0, 0, 1), (1, 2, 0, 0, 2), (1, 2, 0, 0, 3)]),
            ((1, 2), (1, 3), [(1, 2, 1), (1, 2, 2), (1, 2, 3)]), ((1, 2), (2,), [(1, 2, 1), (1, 2, 2), (1, 2, 3)]),
            ((1, 0, 1), (1, 1), [(1, 0, 1, 1), (1, 0, 1, 2), (1, 0, 1, 3)]), ((1,), (10,), [(1, 1), (1, 2), (1, 3)]),
            ((4,), None, [(4, 1), (4, 2), (4, 3)]), ((1, 0, 1), None, [(1, 0, 1, 1), (1, 0, 1, 2), (1, 0, 1, 3)]),
        ]:
            for many in range(4):
                self.assertEqual(labels_between(before, after, many), labels[:many])
                self.assertEqual(plain_change.labels_between(before, after, many), labels[:many])

    def test_labels_ascend(self):
        for seed in range(500):
            chance = random.Random(seed)
            label = tuple(chance.choices([0, 0, 1, 2, 10], k=chance.randint(0, 4))) + (chance.choice([1, 2, 12]),)
            further = label + tuple(chance.choices([0, 0, 1, 3], k=chance.randint(0, 3))) + (chance.choice([1, 5]),)
            last = chance.choice([further, (*label[:-1], label[-1] + 1), (label[0] + 1, 0, 2), None])
            first = chance.choice([label, None])
            found = labels_between(first, last, chance.randint(1, 12))
            told = [*([first] if first else []), *found, *([last] if last else [])]
            self.assertTrue(all(one < other for one, other in zip(told, told[1:])), told)
            self.assertTrue(all(label[-1] >= 1 and min(label) >= 0 for label in found))

    def test_great_numbers(self):
        great = 10 ** 5000
        self.assertEqual(labels_between((great,), (great, great), 1), [(great, 0, 1)])


class RenewTest(unittest.TestCase):
    def check(self, volumes, book, shape=SHAPE, table=TABLE):
        """Returns the renewal, when it was compared with what the points tell of it."""
        before = [list(volume) for volume in volumes]
        blocks = list(book.blocks)
        found, labels = renew(shape, table, volumes, book)
        self.assertEqual((found, labels), plain_change.renew(shape, table, volumes, book))
        self.assertEqual(least_size(shape, table, volumes, book), len(labels))
        if book.blocks:
            self.assertIsNone(form_fault(shape, found))
            if decide(table)[0] == "readable":
                self.assertIs(is_layout(shape, table, found), True)
                self.assertEqual(read_back(shape, table, found).blocks, book.blocks)
        self.assertEqual(({len(volume) for volume in found[:-1]} | {shape.size}), {shape.size})
        self.assertTrue(all(1 <= len(volume) <= shape.size for volume in found))
        self.assertEqual([label for label in labels_of(found) if label in labels], labels)
        old = sheets_of(volumes)
        self.assertTrue(all(sheet in old for sheet in sheets_of(found) if sheet[0] not in labels))
        bounds = make_bounds(shape, table, volumes, book)
        self.assertIs(accepts_bounds(shape, table, volumes, book, bounds), True)
        self.assertEqual(bounds[0, (0, 0, "first")], len(labels))
        # What is returned is changed, and what was passed stays.
        wanted = [list(volume) for volume in found]
        for volume in found:
            volume.clear()
        found.clear()
        self.assertEqual((volumes, book.blocks), (before, blocks))
        return wanted, labels

    def test_no_old_sheets(self):
        book = Book([("head", "1"), ("par", "234"), ("break",), ("note", 7, "12034567890"), ("item", 2, "5")])
        volumes, labels = self.check([], book)
        self.assertEqual(labels, [(1,), (2,)])
        self.assertEqual(volumes, [[
            sheet((1,), [(60, 1), (61, 2, 3, 4)], [(59,)]),
            sheet((2,), [(63, 8, 0, 1, 2, 0, 3, 4), (57, 5, 6, 7, 8, 9, 0)], [(62, 2, 5)]),
        ]])

    def test_a_back_behind_a_break(self):
        volumes, labels = self.check([], Book([("break",), ("par", "1"), ("break",), ("break",), ("break",)]))
        self.assertEqual(labels, [(1,), (2,)])
        self.assertEqual(volumes, [[
            sheet((1,), [(59,)], [(61, 1), (59,)]), sheet((2,), [(59,)], [(59,)]),
        ]])

    def test_texts_that_are_words_of_blocks(self):
        table = Table("abekr", 1, [Rule(0, sign, [at + 1], 0) for at, sign in enumerate("abekr")])
        book = Book([("par", "break"), ("break",), ("note", 1, "break"), ("head", "break")])
        volumes, _ = self.check([], book, table=table)
        self.assertEqual(self.check(volumes, book, table=table), (volumes, []))

    def test_a_book_without_blocks(self):
        self.assertEqual(renew(SHAPE, TABLE, [], Book([])), ([], []))
        self.assertEqual(renew(SHAPE, TABLE, [[sheet((1,), [(61, 1)])]], Book([])), ([], []))
        self.assertEqual(least_size(SHAPE, TABLE, [[sheet((1,), [(61, 1)])]], Book([])), 0)

    def test_a_text_without_a_writing(self):
        for function in (renew, least_size):
            with self.assertRaises(NoWriting) as caught:
                function(SHAPE, TABLE, [], Book([("par", "1"), ("break",), ("head", "2x"), ("head", "x")]))
            self.assertEqual(caught.exception.block, 2)

    def test_all_stay(self):
        book = pars("1", "2", "3", "4", "5", "6", "7", "8", "9")
        volumes, _ = renew(SHAPE, TABLE, [], book)
        self.assertEqual(self.check(volumes, book), (volumes, []))
        # They are bound anew.
        self.assertEqual(self.check([[one] for one in sheets_of(volumes)], book), (volumes, []))
        self.assertEqual(self.check([sheets_of(volumes)], book), (volumes, []))

    def test_none_stays(self):
        volumes, _ = renew(SHAPE, TABLE, [], pars("1", "2", "3", "4", "5"))
        found, labels = self.check(volumes, pars("6", "7", "8", "9", "0"))
        self.assertEqual(labels, [(1,), (2,)])
        self.assertEqual(found, renew(SHAPE, TABLE, [], pars("6", "7", "8", "9", "0"))[0])

    def test_blocks_put_in(self):
        texts = [str(number) for number in range(100, 112)]
        volumes, labels = renew(SHAPE, TABLE, [], pars(*texts))
        self.assertEqual(labels, [(1,), (2,), (3,)])
        for at, wanted in [(0, [(0, 1)]), (4, [(1, 1)]), (8, [(2, 1)]), (12, [(3, 1)])]:
            found, labels = self.check(volumes, pars(*texts[:at], "7", *texts[at:]))
            self.assertEqual(labels, wanted)
            self.assertEqual(labels_of(found), sorted([(1,), (2,), (3,), *wanted]))
        # Within a sheet: it does not stay, and there are five lines for new ones.
        self.assertEqual(self.check(volumes, pars(*texts[:2], "7", *texts[2:]))[1], [(0, 1), (0, 2)])
        self.assertEqual(self.check(volumes, pars(*texts[:6], "7", *texts[6:]))[1], [(1, 1), (1, 2)])
        self.assertEqual(self.check(volumes, pars(*texts[:10], "7", *texts[10:]))[1], [(2, 1), (2, 2)])

    def test_blocks_left_out(self):
        texts = [str(number) for number in range(100, 112)]
        volumes, _ = renew(SHAPE, TABLE, [], pars(*texts))
        for at, wanted in [(1, [(0, 1)]), (5, [(1, 1)]), (9, [(2, 1)])]:
            self.assertEqual(self.check(volumes, pars(*texts[:at], *texts[at + 1:]))[1], wanted)
        self.assertEqual(self.check(volumes, pars(*texts[:4], *texts[8:])), ([sheets_of(volumes)[::2]], []))
        self.assertEqual(self.check(volumes, pars(*texts[4:])), ([sheets_of(volumes)[1:]], []))
        self.assertEqual(self.check(volumes, pars(*texts[:8])), ([sheets_of(volumes)[:2]], []))

    def test_blocks_changed(self):
        texts = [str(number) for number in range(100, 112)]
        volumes, _ = renew(SHAPE, TABLE, [], pars(*texts))
        for at, wanted in [(0, [(0, 1)]), (5, [(1, 1)]), (11, [(2, 1)])]:
            self.assertEqual(self.check(volumes, pars(*texts[:at], "7", *texts[at + 1:]))[1], wanted)
        # A longer text in the middle: several new sheets between two.
        found, labels = self.check(volumes, pars(*texts[:5], "1234567" * 8, *texts[6:]))
        self.assertEqual(labels, [(1, 1), (1, 2), (1, 3)])
        self.assertEqual(labels_of(found), [(1,), (1, 1), (1, 2), (1, 3), (3,)])
        # The text is pressed in another kind of block.
        blocks = pars(*texts).blocks
        self.assertEqual(self.check(volumes, Book([*blocks[:7], ("head", texts[7]), *blocks[8:]]))[1], [(1, 1)])

    def test_labels_with_zeros(self):
        texts = [str(number) for number in range(100, 108)]
        volumes = [[
            sheet((0, 0, 3), [(61, 1, 0, 0), (61, 1, 0, 1)]), sheet((0, 1), [(61, 1, 0, 2), (61, 1, 0, 3)]),
            sheet((0, 1, 0, 2), [(61, 1, 0, 4), (61, 1, 0, 5)]), sheet((2, 0, 12), [(61, 1, 0, 6), (61, 1, 0, 7)]),
        ]]
        self.assertEqual(self.check(volumes, pars(*texts))[1], [])
        for at, wanted in [
            (0, (0, 0, 0, 1)), (2, (0, 0, 3, 1)), (4, (0, 1, 0, 0, 1)), (6, (0, 1, 0, 2, 1)), (8, (2, 0, 12, 1)),
        ]:
            self.assertEqual(self.check(volumes, pars(*texts[:at], "9", *texts[at:]))[1], [wanted])
        # Renewals of renewals.
        book = pars(*texts)
        for _ in range(4):
            book = Book([("par", "9"), *book.blocks[:4], ("par", "8"), *book.blocks[4:]])
            volumes, _ = self.check(volumes, book)
        self.assertEqual(labels_of(volumes), sorted(labels_of(volumes)))

    def test_two_sheets_that_are_equal_but_for_their_labels(self):
        one = [(61, 1), (61, 2)]
        volumes = [[sheet((1,), one), sheet((2,), one)], [sheet((3,), one)]]
        book = pars("1", "2")
        # Any one of them can stay: the first one does.
        self.assertEqual(self.check(volumes, book), ([[sheet((1,), one)]], []))
        self.assertEqual(self.check(volumes, pars("1", "2", "1", "2")), ([[sheet((1,), one), sheet((2,), one)]], []))
        found, labels = self.check(volumes, pars("1", "2", "3", "1", "2", "1", "2"))
        self.assertEqual((labels_of(found), labels), ([(1,), (1, 1), (2,), (3,)], [(1, 1)]))

    def test_several_renewals_of_the_least_size(self):
        # The second and the third sheet together stand for the first one: more sheets stay.
        volumes = [[sheet((1,), [(61, 1), (61, 2)]), sheet((2,), [(61, 1)])], [sheet((3,), [(61, 2)])]]
        self.assertEqual(self.check(volumes, pars("1", "2")), ([sheets_of(volumes)[1:]], []))
        # Of two places at which a sheet can stay the first one.
        volumes = [[sheet((1,), [(61, 5), (61, 5)])]]
        found, labels = self.check(volumes, pars("5", "5", "7", "5", "5"))
        self.assertEqual((labels_of(found), labels), ([(1,), (1, 1)], [(1, 1)]))
        found, labels = self.check(volumes, pars("7", "5", "5", "5", "5", "7"))
        self.assertEqual((labels_of(found), labels), ([(0, 1), (1,), (1, 1)], [(0, 1), (1, 1)]))
        # Of two places to which one leads the first one: the line behind it begins with `joined`.
        volumes = [[sheet((1,), [(61, 1, 2)])]]
        found, labels = self.check(volumes, pars("12034"))
        self.assertEqual(found, [[sheet((1,), [(61, 1, 2)]), sheet((1, 1), [(57, 0, 3, 4)])]])

    def test_new_sheets_between_two_places(self):
        # Ahead of an old sheet that begins with `on`, directly behind a cell 0 and another one.
        volumes = [[sheet((1,), [(58, 5), (61, 6)])]]
        found, labels = self.check(volumes, pars("1234567005", "6"))
        self.assertEqual(labels, [(0, 1)])
        self.assertEqual(found[0][0], sheet((0, 1), [(61, 1, 2, 3, 4, 5, 6, 7), (57, 0)]))
        found, labels = self.check(volumes, pars("12345670005", "6"))
        self.assertEqual(found[0][0], sheet((0, 1), [(61, 1, 2, 3, 4, 5, 6, 7), (58, 0)]))
        found, labels = self.check(volumes, pars("1234567890012345005", "6"))
        self.assertEqual(found[0][0], sheet((0, 1), [(61, 1, 2, 3, 4, 5, 6, 7), (57, 8, 9, 0, 0, 1, 2, 3)], [(57, 4, 5, 0)]))

    def test_a_place_with_joined_behind_full_lines(self):
        # Four full lines lead to (0, 29, "on"), as the cell 28 is left out, but not to (0, 29, "joined").
        text = "1234567" * 4 + "089"
        volumes = [[sheet((1,), [(58, 8, 9)])]]
        self.assertEqual(self.check(volumes, pars(text))[1], [(0, 1)])
        volumes = [[sheet((1,), [(57, 8, 9)])]]
        found, labels = self.check(volumes, pars(text))
        self.assertEqual(labels, [(0, 1), (0, 2)])
        self.assertEqual(found[0][1], sheet((0, 2), [(57, 0)]))
        # The one that begins with `on` goes before the others, however many stay.
        volumes = [[sheet((1,), [(57, 8)]), sheet((2,), [(57, 9)]), sheet((3,), [(58, 8, 9)])]]
        found, labels = self.check(volumes, pars(text))
        self.assertEqual((labels_of(found), labels), ([(0, 1), (3,)], [(0, 1)]))
        # With as many new sheets, but more that stay: a place with `joined` after all.
        volumes = [[sheet((1,), [(57, 8)]), sheet((2,), [(57, 9)]), sheet((3,), [(58, 8)])]]
        found, labels = self.check(volumes, pars(text))
        self.assertEqual((labels_of(found), labels), ([(0, 1), (0, 2), (1,), (2,)], [(0, 1), (0, 2)]))

    def test_volumes_of_just_size_sheets(self):
        for size in (1, 2, 3):
            shape = Shape(8, 3, size, MARKS)
            for many in range(1, 9):
                texts = [str(number) for number in range(4 * many)]
                volumes, labels = self.check([], pars(*texts), shape)
                self.assertEqual([len(volume) for volume in volumes], [size] * (many // size) + [many % size] * (many % size > 0))
                self.assertEqual(self.check(volumes, pars(*texts), Shape(8, 3, 4, MARKS))[1], [])
                if many > 1:
                    # One sheet less, and so one from the next volume.
                    found, labels = self.check(volumes, pars(*texts[4:]), shape)
                    self.assertEqual((sheets_of(found), labels), (sheets_of(volumes)[1:], []))

    def test_sheets_that_are_no_part_of_a_layout(self):
        book = pars("1", "2")
        number = (56, 2)
        for wrong in [
            ((1,), (), ((61, 1), (61, 2), number)), ((1,), (), ()), ((1,), (number,), ()), ((1,), ((61, 1), (61, 2), (56, 3)), ()),
            ((1,), ((61, 1), (61, 2)), ()), ((1,), ((61, 1), number), ((61, 2), (56,))), ((1,), ((61, 1), (61, 2), number), (number,)),
            ((1,), ((61, 1), (61, 2), (61, 3), number), ()), ((1,), ((61, 64), number), ()), ((1,), ((), number), ()),
            ((1,), ((61, 1), (61, 1), number), ()), ((1,), ((61, 1, 2), number), ()), ((1,), ((-1,), (10 ** 30, 4), number), ()),
            ((1,), ((61,), (61, 1), number), ()),
        ]:
            found, labels = self.check([[wrong]], book)
            self.assertEqual((found, labels), ([[sheet((1,), [(61, 1), (61, 2)])]], [(1,)]))

    def test_of_layouts_that_were_laid_out(self):
        for seed in range(40):
            chance = random.Random(seed)
            texts = ["0".join(str(chance.randint(1, 99999)) for _ in range(chance.randint(1, 8))) for _ in range(12)]
            shape = Shape(chance.randint(8, 12), chance.randint(5, 7), 3, MARKS)
            book = Book([chance.choice([("par", text), ("note", 9, text), ("item", 1, text)]) for text in texts])
            try:
                volumes = lay_out(shape, TABLE, book)
            except NoLayout:
                continue
            self.assertEqual(renew(shape, TABLE, volumes, book), (volumes, []))
            at = chance.randrange(12)
            other = Book([*book.blocks[:at], ("par", "7"), *book.blocks[at + 1:]])
            found, labels = renew(shape, TABLE, volumes, other)
            self.assertEqual(read_back(shape, TABLE, found).blocks, other.blocks)
            self.assertGreater(len(sheets_of(found)) - len(labels), len(sheets_of(volumes)) - 4)

    def test_books_by_chance(self):
        stayed, several = 0, 0
        for seed in range(70):
            chance = random.Random(seed)
            shape, table = plain_change.made_shape(chance), plain_change.made_table(chance)
            book = Book(plain_change.made_blocks(chance, chance.randint(1, 4)))
            volumes, _ = self.check([], book, shape, table)
            if chance.random() < 0.3 and all(len(block[-1]) < 12 for block in book.blocks):
                volumes = plain.made_layout(chance, shape, table, book)
            for _ in range(2):
                book = plain_change.edited(chance, book)
                if len(sheets_of(volumes)) > 6:
                    break
                several += self.have_several(shape, table, volumes, book)
                volumes, labels = self.check(volumes, book, shape, table)
                stayed += 0 < len(labels) < len(sheets_of(volumes))
        self.assertGreater(stayed, 20)
        self.assertGreater(several, 3)

    def have_several(self, shape, table, volumes, book):
        """Returns True if there are several renewals of the least size with the same numbers of old sheets."""
        ways = plain_change.Ways(shape, book, plain_change.rows_of(table, book)).renewals(sheets_of(volumes))
        return sum(way[:3] == min(ways)[:3] for way in ways) > 1

    def test_a_large_book(self):
        chance = random.Random(5)
        texts = ["0".join(str(chance.randint(1, 9999999)) for _ in range(50))[:390] + "7" for _ in range(120)]
        shape = Shape(20, 12, 20, MARKS)
        volumes, labels = renew(shape, TABLE, [], pars(*texts))
        self.assertGreater(len(labels), 100)
        found, labels = renew(shape, TABLE, volumes, pars("1", *texts[:60], "2", *texts[61:]))
        self.assertLess(len(labels), 5)
        self.assertEqual(read_back(shape, TABLE, found).blocks, pars("1", *texts[:60], "2", *texts[61:]).blocks)


    def test_a_book_of_equal_blocks(self):
        # Most sheets can stay at most places.
        text = "1" * 190
        volumes, labels = renew(SHAPE, TABLE, [], pars(*[text] * 10))
        self.assertEqual(len(labels), 70)
        found, labels = renew(SHAPE, TABLE, volumes, pars(*[text] * 9))
        self.assertEqual((sheets_of(found), labels), (sheets_of(volumes)[:63], []))
        found, labels = renew(SHAPE, TABLE, volumes, pars(*[text] * 4, "2", *[text] * 6))
        self.assertEqual((labels_of(found), labels), (labels_of(volumes)[:28] + [(28, 1)] + labels_of(volumes)[28:], [(28, 1)]))
        found, labels = renew(SHAPE, TABLE, volumes, pars(*[text] * 11))
        self.assertEqual((len(sheets_of(found)), len(labels)), (77, 7))
        self.assertEqual(read_back(SHAPE, TABLE, found).blocks, pars(*[text] * 11).blocks)

    def test_the_best_renewals_from_one_place_and_from_all(self):
        for seed in range(40):
            chance = random.Random(seed)
            shape, table = plain_change.made_shape(chance), plain_change.made_table(chance)
            book = Book(plain_change.made_blocks(chance, chance.randint(1, 4)))
            change = Change(shape, table, [], book)
            last = change.all_places[-1]
            known = {last: (0, 0, (), (), ())}
            for place in chance.sample(change.all_places[:-1], len(change.all_places) // 3):
                known[place] = (chance.randint(0, 3), -chance.randint(1, 2), (chance.randint(0, 5),), (place,), (last,))
            found = change.best_from_all(known)
            self.assertEqual(list(found), change.all_places)
            for place in change.all_places:
                self.assertEqual(change.best_from_one(place, known, sorted(known)), found[place])


class StretchesTest(unittest.TestCase):
    """The fact of point 48: no sheets between two places are fewer."""

    def check(self, shape, table, book):
        rows = rows_of(table, book)
        ways = plain_change.Ways(shape, book, rows)
        stretches = Stretches(shape, book, rows)
        told = places(rows, book)
        for place in told:
            last, lacking = stretches.sheet_reach(place)
            reached = {end for end in told if place < end <= last and leads_to(place, end) and end != lacking}
            self.assertEqual(reached, ways.sheet_from(place))
            for end, many in ways.distances(place).items():
                sides = stretches.sheets_to(place, end)
                self.assertEqual([[*pages, []][:2] for pages in sides], ways.fill(place, end))
                self.assertEqual(len(sides), many)

    def test_cells_0_everywhere(self):
        table = Table("ab", 1, [Rule(0, "a", [0], 0), Rule(0, "b", [1], 0)])
        shape = Shape(8, 3, 1, MARKS)
        for text in ["a" * 40, "b" * 40, "ab" * 20, "aab" * 13, "b" * 7 + "a" * 20, "a" * 7 + "b" * 7 + "a" * 16, "bbbbbbba" * 5]:
            self.check(shape, table, pars(text))

    def test_books_by_chance(self):
        for seed in range(25):
            chance = random.Random(1000 + seed)
            book = Book(plain_change.made_blocks(chance, chance.randint(1, 4)))
            self.check(plain_change.made_shape(chance), plain_change.made_table(chance), book)


class BoundsTest(unittest.TestCase):
    def setUp(self):
        self.book = pars("12034", "5")
        self.volumes = [[sheet((1,), [(61, 1, 2)]), sheet((2,), [(58, 3, 4), (61, 5)])]]
        self.bounds = make_bounds(SHAPE, TABLE, self.volumes, self.book)

    def accepts(self, bounds, volumes=None, book=None):
        volumes = self.volumes if volumes is None else volumes
        book = self.book if book is None else book
        found = accepts_bounds(SHAPE, TABLE, volumes, book, bounds)
        self.assertIs(found, plain_change.accepts_bounds(SHAPE, TABLE, volumes, book, bounds))
        return found

    def test_bounds_that_are_made(self):
        places_told = [(0, 0, "first"), (0, 1, "joined"), (0, 2, "joined"), (0, 3, "joined"), (0, 3, "on"), (0, 4, "joined"),
                       (1, 0, "first"), (2, 0, "first")]
        self.assertEqual(set(self.bounds), {(j, place) for j in range(3) for place in places_told})
        self.assertEqual([self.bounds[0, place] for place in places_told], [0, 1, 1, 1, 0, 1, 1, 0])
        self.assertEqual([self.bounds[1, place] for place in places_told], [1, 1, 1, 1, 0, 1, 1, 0])
        self.assertEqual([self.bounds[2, place] for place in places_told], [1, 1, 1, 1, 1, 1, 1, 0])
        self.assertIs(self.accepts(self.bounds), True)
        self.assertEqual(least_size(SHAPE, TABLE, self.volumes, self.book), 0)

    def test_one_bound_raised_or_lowered(self):
        accepted = 0
        for pair, bound in self.bounds.items():
            # Each of the bounds that are made is the greatest that it can be.
            self.assertIs(self.accepts({**self.bounds, pair: bound + 1}), False)
            accepted += self.accepts({**self.bounds, pair: bound - 1})
        self.assertGreater(accepted, 3)

    def test_bounds_below_0(self):
        for pair in self.bounds:
            self.assertIs(self.accepts({**self.bounds, pair: -1}), False)
        self.assertIs(self.accepts({pair: 0 for pair in self.bounds}), True)
        self.assertIs(self.accepts({pair: -1 for pair in self.bounds}), False)

    def test_the_last_place_behind_all_old_sheets(self):
        self.assertIs(self.accepts({**self.bounds, (2, (2, 0, "first")): 1}), False)
        # Those of earlier sheets at the last place are bound by it.
        self.assertIs(self.accepts({**self.bounds, (0, (2, 0, "first")): 1}), False)

    def test_pairs_left_out_and_put_in(self):
        for pair in self.bounds:
            self.assertIs(self.accepts({key: bound for key, bound in self.bounds.items() if key != pair}), False)
        for pair in [(3, (0, 0, "first")), (-1, (0, 0, "first")), (0, (0, 2, "on")), (0, (0, 0, "on")), (0, (3, 0, "first")),
                     (0, (0, 5, "joined")), (0, (-1, 0, "first")), (0, (1, 1, "joined")), (0, (0, 0, "last"))]:
            self.assertIs(self.accepts({**self.bounds, pair: 0}), False)
            swapped = {key: bound for key, bound in self.bounds.items() if key != (0, (0, 1, "joined"))}
            self.assertIs(self.accepts({**swapped, pair: 0}), False)
        self.assertIs(self.accepts({}), False)

    def test_no_old_sheets(self):
        book = pars(*[str(number) for number in range(9)])
        bounds = make_bounds(SHAPE, TABLE, [], book)
        self.assertEqual({pair[0] for pair in bounds}, {0})
        self.assertEqual([bounds[0, (k, 0, "first")] for k in range(10)], [3, 2, 2, 2, 2, 1, 1, 1, 1, 0])
        self.assertIs(self.accepts(bounds, [], book), True)
        for pair, bound in bounds.items():
            self.assertIs(self.accepts({**bounds, pair: bound + 1}, [], book), False)
        self.assertEqual(make_bounds(SHAPE, TABLE, [], Book([])), {(0, (0, 0, "first")): 0})
        self.assertIs(self.accepts({(0, (0, 0, "first")): 0}, [], Book([])), True)
        self.assertIs(self.accepts({(0, (0, 0, "first")): 1}, [], Book([])), False)

    def test_of_other_volumes_and_books(self):
        self.assertIs(self.accepts(self.bounds, self.volumes[:1] + [[sheet((3,), [(61, 5)])]]), False)
        self.assertIs(self.accepts(self.bounds, [self.volumes[0][:1]]), False)
        self.assertIs(self.accepts(self.bounds, book=pars("12304", "5")), False)
        # Without the sheets that stay, the bounds are but lower than they can be.
        others = [[sheet((1,), [(61, 9)]), sheet((2,), [(61, 9)])]]
        self.assertIs(self.accepts(self.bounds, others), True)

    def test_a_sheet_that_leads_to_several_places(self):
        volumes = [[sheet((1,), [(61, 1, 2)])]]
        bounds = make_bounds(SHAPE, TABLE, volumes, self.book)
        first = (0, (0, 0, "first"))
        self.assertEqual(bounds[first], 1)
        for end in [(0, 2, "joined"), (0, 3, "on")]:
            # None of the others is bound by the bound of this place behind the sheet.
            lower = {**bounds, (0, end): 0, (1, end): 0}
            self.assertIs(self.accepts(lower, volumes), False)
            self.assertIs(self.accepts({**lower, first: 0}, volumes), True)

    def test_places_between_which_no_lines_lead(self):
        # From (0, 1, ..) and (0, 2, ..) none leads to (0, 2, "on"), whatever its bound is.
        book = pars("10" + "2" * 40)
        bounds = make_bounds(SHAPE, TABLE, [], book)
        self.assertEqual(bounds[0, (0, 1, "joined")], 2)
        lower = {**bounds, (0, (0, 2, "on")): 0}
        self.assertIs(self.accepts(lower, [], book), False)
        lower[0, (0, 0, "first")] = 1
        self.assertIs(self.accepts(lower, [], book), True)

    def test_bounds_by_chance(self):
        told = [0, 0]
        for seed in range(25):
            chance = random.Random(seed)
            shape, table = plain_change.made_shape(chance), plain_change.made_table(chance)
            book = Book(plain_change.made_blocks(chance, chance.randint(1, 3)))
            volumes, _ = renew(shape, table, [], book)
            book = plain_change.edited(chance, book)
            bounds = make_bounds(shape, table, volumes, book)
            self.assertIs(plain_change.accepts_bounds(shape, table, volumes, book, bounds), True)
            for _ in range(12):
                other = dict(bounds)
                for pair in chance.sample(list(other), chance.randint(1, 2)):
                    other[pair] += chance.choice([-1, 1, -2])
                wanted = plain_change.accepts_bounds(shape, table, volumes, book, other)
                self.assertIs(accepts_bounds(shape, table, volumes, book, other), wanted)
                told[wanted] += 1
        self.assertGreater(min(told), 5)

    def test_what_is_passed_does_not_change(self):
        before = dict(self.bounds)
        self.accepts(self.bounds)
        self.assertEqual(self.bounds, before)
        self.bounds.clear()
        self.assertEqual(make_bounds(SHAPE, TABLE, self.volumes, self.book), before)


if __name__ == "__main__":
    unittest.main()

"""Points 50 to 53, and the interface of sixdot/press.py."""

import random
import unittest

from sixdot.errors import InvalidJournal
from sixdot.press import Heap, Press

WORDS = ["feed", "front", "turn", "back", "drop", "note"]


def journal_of(many):
    return "".join(f"done {number}\n" for number in range(many))


def sheets(many):
    return [((number + 1,), ((61, number), (56, number + 2)), ()) for number in range(many)]


def heap_with(told):
    heap = Heap()
    for sheet in told:
        heap.drop(sheet)
    return heap


class HeapTest(unittest.TestCase):
    def test_drop_and_fall(self):
        heap = Heap()
        self.assertEqual((heap.sheets(), heap.dropped(), heap.fall()), ([], 0, None))
        one, two, three = sheets(3)
        self.assertIsNone(heap.drop(one))
        heap.drop(two)
        heap.drop(two)
        self.assertEqual((heap.sheets(), heap.dropped()), ([one, two, two], 3))
        self.assertEqual((heap.fall(), heap.sheets(), heap.dropped()), (two, [one, two], 3))
        heap.drop(three)
        self.assertEqual((heap.sheets(), heap.dropped()), ([one, two, three], 4))
        self.assertEqual([heap.fall() for _ in range(4)], [three, two, one, None])
        self.assertEqual((heap.sheets(), heap.dropped()), ([], 4))

    def test_the_list_is_new(self):
        heap = heap_with(sheets(2))
        heap.sheets().clear()
        self.assertEqual(heap.sheets(), sheets(2))

    def test_two_heaps(self):
        heap_with(sheets(2))
        self.assertEqual((Heap().sheets(), Heap().dropped()), ([], 0))


class PressTest(unittest.TestCase):
    def check(self, press, number, done):
        """Looks at a press in which so many things were done with the sheet."""
        inside = (number, WORDS[done - 1]) if 0 < done < 5 else None
        self.assertEqual(press.inside(), inside)
        self.assertEqual(press.journal(), journal_of(number + (done == 6)))

    def test_every_word_in_order(self):
        heap = Heap()
        press = Press(sheets(3), heap)
        self.check(press, 0, 0)
        for number in range(3):
            for at, word in enumerate(WORDS):
                self.assertEqual(heap.sheets(), sheets(number + (at == 5)))
                self.assertEqual(press.step(), word)
                self.check(press, number, at + 1)
                self.assertEqual(heap.dropped(), number + (at >= 4))
        for _ in range(5):
            self.assertEqual(press.step(), "over")
            self.assertEqual((press.inside(), press.journal()), (None, journal_of(3)))
            self.assertEqual((heap.sheets(), heap.dropped()), (sheets(3), 3))

    def test_no_sheets(self):
        heap = Heap()
        for journal in ("", "don"):
            press = Press([], heap, journal=journal)
            self.assertEqual([press.step() for _ in range(3)], ["over"] * 3)
            self.assertEqual((press.inside(), press.journal(), press.jam()), (None, "", False))
        self.assertEqual((heap.sheets(), heap.dropped()), ([], 0))

    def test_jams_at_every_moment(self):
        for moment in range(13):
            heap = Heap()
            press = Press(sheets(2), heap)
            words = [press.step() for _ in range(moment)]
            within = moment % 6 in (1, 2, 3, 4)
            for _ in range(2):
                self.assertIs(press.jam(), within)
                within = False
            self.assertIsNone(press.inside())
            self.assertEqual(heap.sheets(), sheets((moment + 1) // 6))
            self.assertEqual(press.journal(), journal_of(moment // 6))
            while words[-1:] != ["over"]:
                words.append(press.step())
            spoilt = moment % 6 if moment % 6 in (1, 2, 3, 4) else 0
            self.assertEqual(words, (WORDS * 2)[:moment] + (WORDS * 2)[moment - spoilt:] + ["over"])
            self.assertEqual((heap.sheets(), heap.dropped(), press.journal()), (sheets(2), 2, journal_of(2)))
            self.assertIs(press.jam(), False)
            self.assertEqual(press.step(), "over")

    def test_stops_at_every_moment_with_the_journal_cut_at_every_character(self):
        many = 3
        for moment in range(6 * many + 2):
            for cut in range(len(journal_of(many)) + 1):
                heap = Heap()
                press = Press(sheets(many), heap)
                for _ in range(moment):
                    press.step()
                left = press.journal()[:cut]
                noted = left.count("\n")
                dropped = heap.dropped()
                again = Press(sheets(many), heap, journal=left)
                self.assertEqual((again.inside(), again.journal()), (None, journal_of(noted)))
                words = []
                while words[-1:] != ["over"]:
                    words.append(again.step())
                self.assertEqual(words, ["note"] * (dropped - noted) + WORDS * (many - dropped) + ["over"])
                self.assertEqual((heap.sheets(), heap.dropped()), (sheets(many), many))
                self.assertEqual(again.journal(), journal_of(many))

    def test_sheets_that_fall(self):
        heap = Heap()
        press = Press(sheets(3), heap)
        for _ in range(11):
            press.step()
        self.assertEqual(heap.fall(), sheets(2)[1])
        # The counter stays: the sheet is not pressed again.
        self.assertEqual(press.step(), "note")
        self.assertEqual(heap.fall(), sheets(1)[0])
        again = Press(sheets(3), heap)
        self.assertEqual([again.step() for _ in range(8)], ["note", "note", "feed", "front", "turn", "back", "drop", "note"])
        self.assertEqual((heap.sheets(), heap.dropped(), again.step()), (sheets(3)[2:], 3, "over"))

    def test_a_heap_with_other_sheets(self):
        # What was dropped before counts as the first sheets; no more are noted than there are.
        heap = heap_with([("other",)] * 3)
        press = Press(sheets(2), heap)
        self.assertEqual([press.step() for _ in range(4)], ["note", "note", "over", "over"])
        self.assertEqual((press.journal(), heap.dropped()), (journal_of(2), 3))

    def test_equal_sheets(self):
        heap = Heap()
        press = Press([("one",)] * 3, heap)
        self.assertEqual([press.step() for _ in range(18)], WORDS * 3)
        self.assertEqual(heap.sheets(), [("one",)] * 3)

    def test_more_than_ten_sheets(self):
        heap = Heap()
        press = Press(sheets(12), heap)
        for _ in range(72):
            press.step()
        self.assertEqual(press.journal()[-15:], "done 10\ndone 11\n"[-15:])
        again = Press(sheets(12), heap, journal=press.journal())
        self.assertEqual((again.step(), again.journal()), ("over", press.journal()))
        with self.assertRaises(InvalidJournal):
            Press(sheets(12), heap, journal=press.journal().replace("10", "010"))

    def test_what_is_passed_is_changed_afterwards(self):
        told = sheets(2)
        heap = Heap()
        press = Press(told, heap)
        told.clear()
        self.assertEqual([press.step() for _ in range(13)], WORDS * 2 + ["over"])
        self.assertEqual(heap.sheets(), sheets(2))
        self.assertEqual(told, [])

    def test_by_chance(self):
        jams, stops, falls = 0, 0, 0
        for seed in range(400):
            chance = random.Random(seed)
            many = chance.randint(0, 12)
            told, heap, journal, lying = sheets(many), Heap(), "", []
            before = list(told)
            press = Press(told, heap)
            for _ in range(chance.randint(0, 150)):
                what = chance.random()
                if what < 0.04:
                    jams += press.jam()
                elif what < 0.08:
                    journal = press.journal()
                    press = Press(told, heap, journal=journal[:chance.randint(0, len(journal))])
                    stops += 1
                elif what < 0.1:
                    falls += heap.fall() is not None
                    lying = lying[:-1]
                else:
                    dropped = heap.dropped()
                    word = press.step()
                    if word == "drop":
                        lying.append(told[dropped])
                    self.assertEqual(heap.dropped(), dropped + (word == "drop"))
                self.assertEqual(heap.sheets(), lying)
            while press.step() != "over":
                pass
            self.assertEqual(press.journal(), journal_of(many))
            self.assertEqual(heap.dropped(), many)
            # Only sheets that fell are lacking: what lies there is in the order of the list.
            rest = iter(told)
            self.assertTrue(all(any(sheet == other for other in rest) for sheet in heap.sheets()))
            self.assertEqual(told, before)
        self.assertGreater(min(jams, stops, falls), 200)


class JournalTest(unittest.TestCase):
    def refuse(self, journal, many=3, dropped=3):
        heap = heap_with(sheets(dropped))
        with self.subTest(journal=journal, many=many, dropped=dropped), self.assertRaises(InvalidJournal):
            Press(sheets(many), heap, journal=journal)
        self.assertEqual((heap.sheets(), heap.dropped()), (sheets(dropped), dropped))

    def take(self, journal, noted, many=3, dropped=3):
        press = Press(sheets(many), heap_with(sheets(dropped)), journal=journal)
        self.assertEqual(press.journal(), journal_of(noted))
        return press

    def test_another_first_line(self):
        for line in ["done 1", "done 00", "done", "done ", "done 0 ", " done 0", "Done 0", "done  0", "done -0", "done +0", "done0",
                     "", "0", "done 0.", "done\t0", "done 0\r", "gone 0", "done \u0660", "done 0\x0b"]:
            self.refuse(line + "\n")
            self.refuse(line + "\ndone 1\n")
        self.refuse("\ndone 0\n")

    def test_numbers_that_skip(self):
        self.refuse("done 0\ndone 2\n")
        self.refuse("done 0\ndone 0\n")
        self.refuse("done 1\ndone 0\n")
        self.refuse("done 0\n\ndone 1\n")
        self.refuse("done 0\ndone 1\ndone 3\n")
        self.refuse("done 0\ndone 1\n\n")

    def test_more_lines_than_the_counter_or_than_there_are_sheets(self):
        for dropped in range(3):
            self.take(journal_of(dropped), dropped, 3, dropped)
            self.refuse(journal_of(dropped + 1), 3, dropped)
        for many in range(3):
            self.take(journal_of(many), many, many, 3)
            self.refuse(journal_of(many + 1), many, 3)
        self.refuse(journal_of(1), 0, 0)

    def test_what_stands_behind_the_last_newline(self):
        for rest in ["", "d", "done", "done 1", "done 7", "xyz", " ", "\t", "done 0"]:
            self.take("done 0\n" + rest, 1)
            self.take(rest, 0)
        # As many complete lines as there may be.
        self.take(journal_of(3) + "done 3", 3)
        self.refuse("done 1\ndon")

    def test_the_counter_counts_not_the_sheets_that_lie_there(self):
        heap = heap_with(sheets(3))
        heap.fall()
        heap.fall()
        press = Press(sheets(4), heap, journal=journal_of(3))
        self.assertEqual(press.step(), "feed")
        self.assertEqual(press.inside(), (3, "feed"))


if __name__ == "__main__":
    unittest.main()

"""Points 54 and 55, and the interface of sixdot/binder.py."""

import itertools
import random
import unittest

import plain_compare
from sixdot.binder import filled, missing
from sixdot.errors import NotMissing, StrangeSheet
from sixdot.press import Heap, Press


class BinderTest(unittest.TestCase):
    def strange(self, wanted, lying):
        """Returns the first strange place."""
        found = set()
        for call in (lambda: missing(wanted, lying), lambda: filled(wanted, lying, []), lambda: filled(wanted, lying, ["x"] * 9)):
            with self.assertRaises(StrangeSheet) as caught:
                call()
            found.add(caught.exception.place)
        self.assertEqual(len(found), 1)
        return found.pop()

    def not_missing(self, wanted, lying, more):
        with self.assertRaises(NotMissing) as caught:
            filled(wanted, lying, more)
        return caught.exception.number

    def test_missing(self):
        for wanted, lying, places in [
            ("abc", "abc", []), ("abc", "ab", [2]), ("abc", "bc", [0]), ("abc", "ac", [1]), ("abc", "b", [0, 2]), ("abc", "", [0, 1, 2]),
            ("", "", []), ("a", "", [0]),
        ]:
            self.assertEqual(missing(list(wanted), list(lying)), places)

    def test_equal_sheets_that_leave_a_choice(self):
        for wanted, lying, places in [
            ("aa", "a", [1]), ("aaa", "a", [1, 2]), ("abac", "ac", [1, 2]), ("abab", "ab", [2, 3]), ("abab", "b", [0, 2, 3]),
            ("abab", "aa", [1, 3]), ("aabb", "ab", [1, 3]), ("abcab", "cb", [0, 1, 3]), ("abcab", "ca", [0, 1, 4]),
        ]:
            self.assertEqual(missing(list(wanted), list(lying)), places)
            self.assertEqual(plain_compare.missing(list(wanted), list(lying)), places)

    def test_strange_sheets(self):
        for wanted, lying, place in [
            ("abc", "x", 0), ("abc", "xabc", 0), ("abc", "ax", 1), ("abc", "abx", 2), ("abc", "abcx", 3), ("abc", "abca", 3),
            ("ab", "ba", 1), ("abc", "acb", 2), ("abc", "aab", 1), ("", "a", 0), ("abab", "bb" + "a", 2), ("abc", "cx", 1),
            # The first of several strange ones.
            ("abc", "xyz", 0), ("abc", "bxay", 1), ("abc", "cab", 1),
        ]:
            self.assertEqual(self.strange(list(wanted), list(lying)), place)
            self.assertEqual(plain_compare.missing(list(wanted), list(lying)), (place,))

    def test_all_small_lists(self):
        for wanted in itertools.chain(*[itertools.product("ab", repeat=many) for many in range(5)]):
            for lying in itertools.chain(*[itertools.product("abc", repeat=many) for many in range(4)]):
                told = plain_compare.missing(list(wanted), list(lying))
                if isinstance(told, tuple):
                    self.assertEqual((self.strange(list(wanted), list(lying)),), told)
                else:
                    self.assertEqual(missing(list(wanted), list(lying)), told)
                    more = [wanted[place] for place in told]
                    self.assertEqual(filled(list(wanted), list(lying), more), list(wanted))

    def test_filled(self):
        for wanted, lying, more in [("abc", "b", "ac"), ("abc", "", "abc"), ("abc", "abc", ""), ("", "", ""), ("abac", "ac", "ba")]:
            self.assertEqual(filled(list(wanted), list(lying), list(more)), list(wanted))

    def test_too_few_and_too_many(self):
        self.assertEqual(self.not_missing(list("abc"), list("b"), []), 0)
        self.assertEqual(self.not_missing(list("abc"), list("b"), ["a"]), 1)
        self.assertEqual(self.not_missing(list("abc"), [], ["a", "b"]), 2)
        self.assertEqual(self.not_missing(list("abc"), list("b"), list("aca")), 2)
        self.assertEqual(self.not_missing(list("abc"), list("abc"), ["a"]), 0)
        self.assertEqual(self.not_missing([], [], ["a", "b"]), 0)

    def test_others_and_another_order(self):
        self.assertEqual(self.not_missing(list("abc"), list("b"), list("ca")), 0)
        self.assertEqual(self.not_missing(list("abc"), list("b"), list("ax")), 1)
        self.assertEqual(self.not_missing(list("abc"), [], list("acb")), 1)
        self.assertEqual(self.not_missing(list("abac"), list("ac"), list("ab")), 0)

    def test_two_things_wrong_at_once(self):
        # A strange sheet goes before further ones that are wrong.
        self.assertEqual(self.strange(list("abc"), list("bx")), 1)
        # A wrong one goes before too few or too many of them.
        self.assertEqual(self.not_missing(list("abcd"), [], list("ax")), 1)
        self.assertEqual(self.not_missing(list("ab"), [], list("axab")), 1)

    def test_heaps_from_which_sheets_fell(self):
        for seed in range(200):
            chance = random.Random(seed)
            wanted = [((k + 1,), ((chance.randint(0, 2),),), ()) for k in range(chance.randint(0, 8))]
            if chance.random() < 0.5:
                wanted = [("same", sheet[1], ()) for sheet in wanted]
            heap = Heap()
            press = Press(wanted, heap)
            while press.step() != "over":
                if chance.random() < 0.05:
                    heap.fall()
                if chance.random() < 0.05:
                    press.jam()
                if chance.random() < 0.02:
                    press = Press(wanted, heap)
            places = missing(wanted, heap.sheets())
            self.assertEqual(len(places) + len(heap.sheets()), len(wanted))
            self.assertEqual(filled(wanted, heap.sheets(), [wanted[place] for place in places]), wanted)

    def test_what_is_passed_does_not_change_and_what_is_returned_is_new(self):
        wanted, lying, more = list("abc"), list("b"), list("ac")
        missing(wanted, lying).clear()
        filled(wanted, lying, more).clear()
        self.assertEqual((wanted, lying, more), (list("abc"), list("b"), list("ac")))
        self.assertIsNot(filled(wanted, wanted, []), wanted)
        self.assertIs(filled(wanted, lying, more).__class__, list)


if __name__ == "__main__":
    unittest.main()

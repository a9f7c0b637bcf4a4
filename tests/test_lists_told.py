"""Nothing handed in is changed or kept, and every list told is a new one."""

import unittest

from riftcarry.choosing import by_falls
from riftcarry.orders import falls, first, is_order, laid, places, runs
from riftcarry.wholes import is_whole
from tests.samples import large_orders


class HandedInTest(unittest.TestCase):
    def test_orders_stay_as_they_were(self):
        for ask in [is_order, places, falls, runs, is_whole]:
            for n in [1, 2, 5, 60]:
                for order in large_orders(n):
                    before = list(order)
                    ask(order)
                    self.assertEqual(order, before, ask.__name__)

    def test_what_is_no_order_stays_as_it_was(self):
        for cards in [[], [1], [2, 0, 2], [1, True, 0], [None, 0], ["1", 0], list(range(61, 0, -1))]:
            before = repr(cards)
            self.assertIs(is_order(cards), False)
            self.assertEqual(repr(cards), before)

    def test_laid_leaves_both_as_they_were(self):
        for one in large_orders(60):
            for other in large_orders(60):
                before = (list(one), list(other))
                laid(one, other)
                self.assertEqual((one, other), before)

    def test_one_list_handed_in_twice(self):
        order = [1, 2, 0]
        self.assertEqual(laid(order, order), [2, 0, 1])
        self.assertEqual(order, [1, 2, 0])

    def test_changed_later_changes_nothing_told(self):
        one = [2, 0, 1]
        other = [1, 2, 0]
        told_places = places(one)
        told_laid = laid(one, other)
        one[0] = 7
        other.clear()
        self.assertEqual(told_places, [1, 2, 0])
        self.assertEqual(told_laid, [0, 1, 2])

    def test_changed_later_is_asked_anew(self):
        order = [2, 0, 1]
        self.assertEqual([is_order(order), falls(order), runs(order), places(order)], [True, 1, 2, [1, 2, 0]])
        order.reverse()
        self.assertEqual([is_order(order), falls(order), runs(order), places(order)], [True, 1, 2, [1, 0, 2]])
        order.append(0)
        self.assertIs(is_order(order), False)


class ToldTest(unittest.TestCase):
    def check(self, ask, handed_in):
        told = ask()
        before = list(told)
        for thing in handed_in:
            self.assertIsNot(told, thing)
        again = ask()
        self.assertIsNot(again, told)
        again.reverse()
        again.append("changed")
        self.assertEqual(told, before)
        told.clear()
        self.assertEqual(ask(), before)

    def test_first(self):
        for n in [1, 2, 60]:
            self.check(lambda: first(n), [])

    def test_places(self):
        for order in [[0], [0, 1], [2, 0, 1], list(range(60))]:
            self.check(lambda: places(order), [order])

    def test_laid(self):
        for order in [[0], [1, 0], [2, 0, 1], list(range(59, -1, -1))]:
            upward = list(range(len(order)))
            self.check(lambda: laid(order, upward), [order, upward])
            self.check(lambda: laid(upward, order), [order, upward])

    def test_by_falls(self):
        for n in [1, 2, 3, 60]:
            self.check(lambda: by_falls(n), [])

    def test_by_falls_of_more_and_fewer_cards_later(self):
        told = by_falls(4)
        by_falls(3).clear()
        by_falls(5).clear()
        self.assertEqual(told, [1, 11, 11, 1])
        told.clear()
        self.assertEqual(by_falls(3), [1, 4, 1])
        self.assertEqual(by_falls(5), [1, 26, 66, 26, 1])


if __name__ == "__main__":
    unittest.main()

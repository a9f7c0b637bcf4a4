import unittest

from riftcarry.errors import TooMany
from riftcarry.listing import falls_from
from riftcarry.tables import carries
from tests.samples import all_orders, all_words, falls_by_hand, large_orders, riffled_by_hand

# For each number of cards, the most heaps with no more than 4096 words.
MOST_HEAPS = {1: 4096, 2: 64, 3: 16, 4: 8, 5: 5, 6: 4}


class FallsFromTest(unittest.TestCase):
    def compare(self, orders, b):
        """The riffles are listed once, on the first order, and then done to each of the orders."""
        m = len(orders[0])
        drawn = [riffled_by_hand(list(range(m)), [False] * b, word) for word in all_words(b, m)]
        for order in orders:
            counts = [0] * m
            for places in drawn:
                counts[falls_by_hand([order[place] for place in places])] += 1
            told = falls_from(order, b)
            self.assertIs(told.__class__, list)
            self.assertEqual([number.__class__ for number in told], [int] * m)
            self.assertEqual(told, counts, (order, b))
            self.assertEqual(told, carries(m, b)[falls_by_hand(order)], (order, b))

    def test_examples(self):
        self.assertEqual(falls_from([0], 1), [1])
        self.assertEqual(falls_from([0], 7), [7])
        self.assertEqual(falls_from([0, 1], 2), [3, 1])
        self.assertEqual(falls_from([1, 0], 2), [1, 3])
        self.assertEqual(falls_from([1, 0, 2], 2), [1, 6, 1])
        self.assertEqual(falls_from([1, 2, 0], 2), [1, 6, 1])

    def test_all_orders(self):
        for m, heaps in [(1, [1, 2, 3, 100]), (2, [1, 2, 3, 20]), (3, range(1, 9)), (4, range(1, 6)), (5, range(1, 4)),
                         (6, [1, 2])]:
            for b in heaps:
                self.compare(all_orders(m), b)

    def test_some_orders_with_more_heaps(self):
        for m, heaps in [(2, [63]), (3, [9, 15]), (4, [6, 7]), (5, [4, 5]), (6, [3])]:
            for b in heaps:
                self.compare(all_orders(m)[::7] + large_orders(m), b)

    def test_at_the_bound(self):
        for m, b in MOST_HEAPS.items():
            if m == 1:
                self.assertEqual(falls_from([0], b), [4096])
            else:
                self.compare(large_orders(m), b)
                self.assertEqual(sum(falls_from(list(range(m)), b)), b ** m)

    def test_one_heap_leads_nowhere(self):
        for m in range(1, 7):
            for order in all_orders(m):
                self.assertEqual(falls_from(order, 1), [1 if j == falls_by_hand(order) else 0 for j in range(m)])

    def test_somewhat_more_cards(self):
        for m, b in [(7, 2), (7, 3), (8, 2)]:
            self.compare(large_orders(m), b)


class TooManyTest(unittest.TestCase):
    def test_more_words_than_the_bound(self):
        for m, most in MOST_HEAPS.items():
            for b in [most + 1, most + 2, 2 * most, 4097, 10 ** 6, 10 ** 12 - 1, 10 ** 12]:
                for order in large_orders(m):
                    with self.assertRaises(TooMany):
                        falls_from(order, b)


if __name__ == "__main__":
    unittest.main()

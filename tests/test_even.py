import unittest
from collections import Counter
from fractions import Fraction
from math import comb, factorial, gcd

from riftcarry.choosing import by_falls
from riftcarry.even import chance, far
from tests.samples import all_orders, all_words, riffled_by_hand

HEAPS = [1, 2, 3, 4, 5, 10, 19, 20, 21, 60, 400, 401, 10 ** 6, 2 ** 39, 999999999989, 10 ** 12 - 1, 10 ** 12]


def runs_by_hand(order):
    return 1 + sum(order.index(card + 1) < order.index(card) for card in range(len(order) - 1))


def riffled_one_by_one(n, heaps):
    """How many words of plain heaps lead from the first order to each order."""
    return Counter(tuple(riffled_by_hand(list(range(n)), [False] * heaps, word)) for word in all_words(heaps, n))


def done_once_more(reached, riffle):
    """How often each order comes, when to each that came all riffles are done."""
    counts = Counter()
    for order, count in reached.items():
        for places, words in riffle.items():
            counts[tuple(order[place] for place in places)] += count * words
    return counts


def far_as_listed(n, counts):
    """Half of how far all orders together are from even, order by order."""
    words = sum(counts.values())
    even = Fraction(1, factorial(n))
    return sum(abs(Fraction(counts[tuple(order)], words) - even) for order in all_orders(n)) / 2


def orders_with_runs(n, r):
    """The sum by turns for how many orders have so many runs."""
    return sum((-1) ** taken * comb(n + 1, taken) * (r - taken) ** n for taken in range(r))


def far_by_runs(n, heaps):
    even = Fraction(1, factorial(n))
    apart = [abs(Fraction(comb(heaps + n - r, n), heaps ** n) - even) for r in range(1, n + 1)]
    return sum(orders_with_runs(n, r) * apart[r - 1] for r in range(1, n + 1)) / 2


def as_fraction(test, told):
    """What is told, when its kind and least terms are looked at."""
    test.assertIs(told.__class__, tuple)
    test.assertEqual([part.__class__ for part in told], [int, int])
    test.assertGreaterEqual(told[1], 1)
    test.assertEqual(gcd(told[0], told[1]), 1)
    return Fraction(told[0], told[1])


class ChanceTest(unittest.TestCase):
    def test_examples(self):
        self.assertEqual(chance(1, 1, 1), (1, 1))
        self.assertEqual(chance(2, 2, 1), (3, 4))
        self.assertEqual(chance(2, 2, 2), (1, 4))
        self.assertEqual(chance(3, 2, 1), (1, 2))
        self.assertEqual(chance(3, 2, 2), (1, 8))
        self.assertEqual(chance(3, 2, 3), (0, 1))
        self.assertEqual(chance(3, 3, 3), (1, 27))
        self.assertEqual(chance(3, 3, 2), (4, 27))
        self.assertEqual(chance(3, 3, 1), (10, 27))

    def test_all_words(self):
        for n, most in [(1, 12), (2, 9), (3, 7), (4, 5), (5, 4), (6, 3)]:
            for heaps in range(1, most + 1):
                counts = riffled_one_by_one(n, heaps)
                for order in all_orders(n):
                    told = as_fraction(self, chance(n, heaps, runs_by_hand(order)))
                    self.assertEqual(told, Fraction(counts[tuple(order)], heaps ** n), (n, heaps, order))

    def test_all_orders_come_to_one(self):
        for n in range(1, 7):
            for heaps in HEAPS:
                told = [Fraction(*chance(n, heaps, r)) for r in range(1, n + 1)]
                self.assertEqual(sum(told[runs_by_hand(order) - 1] for order in all_orders(n)), 1, (n, heaps))

    def test_all_orders_of_many_cards_come_to_one(self):
        for n in range(1, 21):
            for heaps in HEAPS:
                told = [as_fraction(self, chance(n, heaps, r)) for r in range(1, n + 1)]
                self.assertEqual(sum(count * part for count, part in zip(by_falls(n), told)), 1, (n, heaps))

    def test_more_runs_than_heaps_never_come(self):
        for n in range(2, 21):
            for heaps in range(1, n):
                self.assertEqual(chance(n, heaps, heaps + 1), (0, 1))
                self.assertEqual(chance(n, heaps, n), (0, 1))
                self.assertEqual(chance(n, heaps, heaps), tuple(Fraction(1, heaps ** n).as_integer_ratio()))

    def test_one_heap(self):
        for n in range(1, 21):
            self.assertEqual([chance(n, 1, r) for r in range(1, n + 1)], [(1, 1)] + [(0, 1)] * (n - 1))

    def test_one_card(self):
        for heaps in HEAPS:
            self.assertEqual(chance(1, heaps, 1), (1, 1))

    def test_somewhat_beyond_the_bounds(self):
        for n, heaps, r in [(21, 2, 1), (21, 10 ** 13, 21), (52, 128, 20), (60, 10 ** 12, 60)]:
            told = as_fraction(self, chance(n, heaps, r))
            self.assertEqual(told, Fraction(comb(heaps + n - r, n), heaps ** n))


class FarTest(unittest.TestCase):
    def test_examples(self):
        self.assertEqual(far(2, 2, 0), (1, 2))
        self.assertEqual(far(2, 2, 1), (1, 4))
        self.assertEqual(far(2, 2, 2), (1, 8))
        self.assertEqual(far(3, 2, 1), (1, 3))
        self.assertEqual(far(3, 1, 7), (5, 6))
        self.assertEqual(far(4, 2, 3), (37, 256))

    def test_riffles_done_over_and_over(self):
        for n, b, most in [(1, 2, 4), (2, 2, 20), (2, 3, 5), (2, 9, 3), (3, 2, 20), (3, 3, 6), (3, 5, 3), (4, 2, 20),
                           (4, 3, 4), (4, 4, 3), (5, 2, 6), (5, 3, 3), (5, 4, 2), (6, 2, 3), (6, 3, 1)]:
            riffle = riffled_one_by_one(n, b)
            reached = Counter([tuple(range(n))])
            self.assertEqual(as_fraction(self, far(n, b, 0)), far_as_listed(n, reached), (n, b))
            for k in range(1, most + 1):
                reached = done_once_more(reached, riffle)
                self.assertEqual(as_fraction(self, far(n, b, k)), far_as_listed(n, reached), (n, b, k))

    def test_one_riffle_of_all_the_heaps(self):
        for n, b, k in [(1, 4, 3), (2, 4, 2), (2, 60, 1), (3, 2, 3), (3, 3, 2), (3, 10, 1), (4, 2, 2), (4, 6, 1),
                        (5, 2, 2), (6, 2, 2)]:
            listed = far_as_listed(n, riffled_one_by_one(n, b ** k))
            self.assertEqual(as_fraction(self, far(n, b, k)), listed, (n, b, k))

    def test_chances_of_all_orders(self):
        for n in range(1, 7):
            listed = [runs_by_hand(order) for order in all_orders(n)]
            for b, k in [(1, 5), (2, 4), (3, 3), (7, 2), (10, 12), (60, 0), (60, 1), (60, 6)]:
                apart = [abs(Fraction(*chance(n, b ** k, r)) - Fraction(1, len(listed))) for r in range(1, n + 1)]
                self.assertEqual(as_fraction(self, far(n, b, k)), sum(apart[r - 1] for r in listed) / 2, (n, b, k))

    def test_by_runs(self):
        for n in range(1, 21):
            for b in [1, 2, 3, 7, 10, 59, 60]:
                for k in [0, 1, 2, 3, 5, 19, 20]:
                    self.assertEqual(as_fraction(self, far(n, b, k)), far_by_runs(n, b ** k), (n, b, k))

    def test_no_riffle(self):
        for n in range(1, 21):
            for b in [1, 2, 60]:
                self.assertEqual(far(n, b, 0), (factorial(n) - 1, factorial(n)) if n > 1 else (0, 1))

    def test_one_heap_leads_nowhere(self):
        for n in range(1, 21):
            for k in range(21):
                self.assertEqual(far(n, 1, k), far(n, 1, 0))

    def test_one_card_is_even(self):
        for b in range(1, 61):
            for k in range(21):
                self.assertEqual(far(1, b, k), (0, 1))

    def test_never_grows(self):
        for n in range(1, 21):
            for b in [1, 2, 3, 10, 37, 60]:
                told = [as_fraction(self, far(n, b, k)) for k in range(21)]
                self.assertEqual(told, sorted(told, reverse=True), (n, b))
                self.assertTrue(0 <= told[-1] <= told[0] < 1, (n, b))
                if n > 1 and b > 1:
                    self.assertLess(told[20], told[1], (n, b))

    def test_as_one_riffle_of_the_product(self):
        for n in [1, 2, 5, 20]:
            for b, k, heaps, times in [(2, 4, 4, 2), (2, 4, 16, 1), (3, 6, 9, 3), (7, 20, 49, 10), (2, 20, 32, 4)]:
                self.assertEqual(far(n, b, k), far(n, heaps, times))

    def test_fifty_two_cards(self):
        # What is known of a whole pack of cards that is riffled in two heaps, in thousandths.
        known = [1000, 1000, 1000, 1000, 1000, 924, 614, 334, 167, 85, 43]
        told = [Fraction(*far(52, 2, k)) for k in range(11)]
        self.assertEqual([round(part * 1000) for part in told], known)

    def test_somewhat_beyond_the_bounds(self):
        for n, b, k in [(21, 2, 3), (21, 60, 20), (5, 61, 2), (5, 100, 21), (60, 2, 9)]:
            self.assertEqual(as_fraction(self, far(n, b, k)), far_by_runs(n, b ** k), (n, b, k))


if __name__ == "__main__":
    unittest.main()

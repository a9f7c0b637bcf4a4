import unittest
from itertools import combinations
from math import comb, factorial

from riftcarry.choosing import by_falls, choose
from tests.samples import all_orders


class ChooseTest(unittest.TestCase):
    def compare(self, n, ks):
        for k in ks:
            self.assertEqual(choose(n, k), comb(n, k) if k >= 0 else 0, (n, k))

    def test_one_by_one(self):
        for n in range(9):
            for k in range(n + 2):
                self.assertEqual(choose(n, k), len(list(combinations(range(n), k))), (n, k))

    def test_k_below_nought(self):
        for n in [0, 1, 2, 60, 999, 10 ** 29]:
            for k in [-1, -2, -60, -n - 1, -10 ** 29]:
                self.assertEqual(choose(n, k), 0, (n, k))

    def test_k_above_n(self):
        for n in [0, 1, 2, 59, 60, 998, 999]:
            for k in [n + 1, n + 2, n + 60, 10 ** 29]:
                self.assertEqual(choose(n, k), 0, (n, k))

    def test_none_and_all(self):
        for n in [*range(1000), 10 ** 29, 10 ** 300 - 1]:
            self.assertEqual(choose(n, 0), 1, n)
        for n in range(1000):
            self.assertEqual(choose(n, n), 1, n)

    def test_of_nothing(self):
        self.compare(0, range(-3, 4))

    def test_small(self):
        for n in range(61):
            self.compare(n, range(-3, n + 4))

    def test_up_to_999(self):
        for n in range(61, 1000, 67):
            self.compare(n, range(-1, n + 2, 13))
        for n in [500, 998, 999]:
            self.compare(n, range(-2, n + 3))

    def test_thirty_figures(self):
        for n in [10 ** 29, 10 ** 30 - 1, 314159265358979323846264338327]:
            self.compare(n, range(-1, 61))

    def test_three_hundred_figures(self):
        self.compare(10 ** 300 - 1, [1, 2, 3, 59, 60])

    def test_somewhat_beyond_the_bounds(self):
        self.compare(1000, [61, 500, 939, 1000, 1001])
        self.compare(10 ** 29, [61, 70])


class ByFallsTest(unittest.TestCase):
    def test_few_cards(self):
        self.assertEqual(by_falls(1), [1])
        self.assertEqual(by_falls(2), [1, 1])
        self.assertEqual(by_falls(3), [1, 4, 1])
        self.assertEqual(by_falls(4), [1, 11, 11, 1])

    def test_against_all_orders(self):
        for n in range(1, 7):
            counts = [0] * n
            for order in all_orders(n):
                counts[sum(order[p + 1] < order[p] for p in range(n - 1))] += 1
            self.assertEqual(by_falls(n), counts, n)

    def test_each_size(self):
        for n in range(1, 61):
            counts = by_falls(n)
            self.assertEqual(len(counts), n)
            self.assertEqual(counts, counts[::-1])
            self.assertEqual(sum(counts), factorial(n))

    def test_against_the_sum_by_turns(self):
        for n in range(1, 61):
            counts = [sum((-1) ** i * comb(n + 1, i) * (j + 1 - i) ** n for i in range(j + 1)) for j in range(n)]
            self.assertEqual(by_falls(n), counts, n)

    def test_somewhat_beyond_sixty(self):
        self.assertEqual(sum(by_falls(61)), factorial(61))


if __name__ == "__main__":
    unittest.main()

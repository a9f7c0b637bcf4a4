import unittest
from math import gcd

from riftcarry.fractions import fraction, shares
from riftcarry.tables import carries

MANY_FIGURES = [10 ** 299, 10 ** 300 - 1, 2 ** 996, 3 ** 628, 2 ** 500 * 3 ** 300, 7 ** 354 + 1, 10 ** 12, 999999999989]


class FractionTest(unittest.TestCase):
    def compare(self, top, bottom):
        told = fraction(top, bottom)
        case = (top, bottom)
        self.assertIs(told.__class__, tuple, case)
        self.assertEqual([part.__class__ for part in told], [int, int], case)
        self.assertGreaterEqual(told[1], 1, case)
        self.assertEqual(told[0] * bottom, top * told[1], case)
        self.assertEqual(gcd(told[0], told[1]), 1, case)

    def test_examples(self):
        self.assertEqual(fraction(6, 4), (3, 2))
        self.assertEqual(fraction(-6, 4), (-3, 2))
        self.assertEqual(fraction(6, -4), (-3, 2))
        self.assertEqual(fraction(-6, -4), (3, 2))
        self.assertEqual(fraction(4, 6), (2, 3))
        self.assertEqual(fraction(5, 7), (5, 7))
        self.assertEqual(fraction(12, 4), (3, 1))
        self.assertEqual(fraction(-4, 12), (-1, 3))
        self.assertEqual(fraction(1, -1), (-1, 1))

    def test_nought(self):
        for bottom in [1, 2, 7, 60, *MANY_FIGURES]:
            self.assertEqual(fraction(0, bottom), (0, 1))
            self.assertEqual(fraction(0, -bottom), (0, 1))

    def test_nothing_above_one_divides_both(self):
        for top in range(-40, 41):
            for bottom in [*range(-40, 0), *range(1, 41)]:
                self.compare(top, bottom)
                told = fraction(top, bottom)
                for divisor in range(2, 41):
                    self.assertFalse(told[0] % divisor == 0 and told[1] % divisor == 0, (top, bottom, divisor))

    def test_many_figures(self):
        for top in [0, 1, 2, 6, *MANY_FIGURES]:
            for bottom in [1, 2, 6, *MANY_FIGURES]:
                for signed in [(top, bottom), (-top, bottom), (top, -bottom), (-top, -bottom)]:
                    self.compare(signed[0], signed[1])

    def test_a_number_by_itself(self):
        for number in [1, 2, 60, *MANY_FIGURES]:
            self.assertEqual(fraction(number, number), (1, 1))
            self.assertEqual(fraction(-number, number), (-1, 1))
            self.assertEqual(fraction(number, -number), (-1, 1))
            self.assertEqual(fraction(number, 1), (number, 1))
            self.assertEqual(fraction(number, -1), (-number, 1))

    def test_many_steps(self):
        # Neighbours in this row take the most steps to be found without a common divisor.
        row = [1, 1]
        while row[-1] < 10 ** 299:
            row.append(row[-1] + row[-2])
        self.assertEqual(fraction(row[-1] * 15, row[-2] * 15), (row[-1], row[-2]))
        self.assertEqual(fraction(row[-2] * -15, row[-1] * 15), (-row[-2], row[-1]))


class SharesTest(unittest.TestCase):
    def test_examples(self):
        self.assertEqual(shares([[5]], 1), [[(5, 1)]])
        self.assertEqual(shares([[4, 0], [-6, 9]], 6), [[(2, 3), (0, 1)], [(-1, 1), (3, 2)]])
        self.assertEqual(shares(carries(2, 10), 100), [[(11, 20), (9, 20)], [(9, 20), (11, 20)]])

    def test_each_number_divided(self):
        for m in range(1, 13):
            for b in [1, 2, 10, 10 ** 12]:
                table = carries(m, b)
                for whole in [1, 2, 360, b ** m]:
                    told = shares(table, whole)
                    self.assertEqual([part.__class__ for part in [told, *told]], [list] * (m + 1))
                    self.assertEqual([len(row) for row in told], [m] * m)
                    for i in range(m):
                        for j in range(m):
                            common = gcd(table[i][j], whole)
                            self.assertEqual(told[i][j], (table[i][j] // common, whole // common), (m, b, whole, i, j))

    def test_many_figures(self):
        for whole in MANY_FIGURES:
            table = [[whole, -whole, 0], [2 * whole, 1, -1], [whole + 1, whole - 1, -3 * whole]]
            self.assertEqual(shares(table, whole), [[(1, 1), (-1, 1), (0, 1)], [(2, 1), (1, whole), (-1, whole)],
                                                    [(whole + 1, whole), (whole - 1, whole), (-3, 1)]])


if __name__ == "__main__":
    unittest.main()

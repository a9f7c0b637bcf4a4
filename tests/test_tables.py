import unittest
from math import comb

from riftcarry.choosing import by_falls
from riftcarry.tables import carries, falls_table, multiplied, product
from tests.samples import all_orders, all_words, falls_by_hand, large_orders, mixed_word, riffled_by_hand

BASES = [1, 2, 3, 4, 5, 7, 10, 11, 12, 13, 16, 60, 100, 399, 400, 401, 4096, 10 ** 6, 2 ** 32, 999999999989,
         10 ** 12 - 1, 10 ** 12]


def carries_one_by_one(m, b):
    """All rows of m figures below b, added one by one, with each number carried in."""
    table = [[0] * m for i in range(m)]
    for figures in all_words(b, m):
        for i in range(m):
            table[i][(sum(figures) + i) // b] += 1
    return table


def carries_by_sums(m, b):
    """How many rows come to each sum, with one figure more at a time."""
    counts = [1]
    for figure in range(m):
        longer = [0] * (len(counts) + b - 1)
        for total, count in enumerate(counts):
            for more in range(b):
                longer[total + more] += count
        counts = longer
    table = [[0] * m for i in range(m)]
    for i in range(m):
        for total, count in enumerate(counts):
            table[i][(total + i) // b] += count
    return table


def carries_by_turns(m, b):
    """The document's sum by turns, as far as it goes."""
    table = []
    for i in range(m):
        row = []
        for j in range(m):
            number = 0
            taken = 0
            while taken <= m + 1 and m - 1 - i + (j + 1 - taken) * b >= 0:
                number += (-1) ** taken * comb(m + 1, taken) * comb(m - 1 - i + (j + 1 - taken) * b, m)
                taken += 1
            row.append(number)
        table.append(row)
    return table


def falls_one_by_one(order, b):
    """Whither all words of b plain heaps lead from the order, riffled one by one."""
    row = [0] * len(order)
    for word in all_words(b, len(order)):
        row[falls_by_hand(riffled_by_hand(order, [False] * b, word))] += 1
    return row


def product_by_hand(one, other):
    places = range(len(one))
    return [[sum(one[i][k] * other[k][j] for k in places) for j in places] for i in places]


def power_by_hand(table, times):
    told = table
    for step in range(times - 1):
        told = product_by_hand(told, table)
    return told


def mixed_table(m, seed):
    """A table without a pattern, with numbers below 0 too."""
    numbers = [part - 9 for part in mixed_word(23, m * m, seed)]
    return [numbers[i * m:(i + 1) * m] for i in range(m)]


class CarriesTest(unittest.TestCase):
    def test_examples(self):
        self.assertEqual(carries(2, 10), [[55, 45], [45, 55]])
        self.assertEqual(carries(3, 2), [[4, 4, 0], [1, 6, 1], [0, 4, 4]])
        self.assertEqual(falls_table(3, 2), [[4, 4, 0], [1, 6, 1], [0, 4, 4]])

    def test_one_by_one(self):
        for m, most in [(1, 40), (2, 20), (3, 12), (4, 7), (5, 5), (6, 4), (7, 3), (8, 2), (12, 2)]:
            for b in range(1, most + 1):
                self.assertEqual(carries(m, b), carries_one_by_one(m, b), (m, b))

    def test_by_sums(self):
        for m in range(1, 13):
            for b in [1, 2, 3, 9, 10, 11, 12, 13, 37]:
                self.assertEqual(carries(m, b), carries_by_sums(m, b), (m, b))

    def test_by_turns(self):
        for m in range(1, 13):
            for b in BASES:
                self.assertEqual(carries(m, b), carries_by_turns(m, b), (m, b))

    def test_thirteen_figures_by_ten_over_and_over(self):
        for m in range(1, 13):
            self.assertEqual(carries(m, 10 ** 12), power_by_hand(carries_by_sums(m, 10), 12), m)

    def test_base_one(self):
        for m in range(1, 13):
            self.assertEqual(carries(m, 1), [[1 if i == j else 0 for j in range(m)] for i in range(m)])

    def test_one_figure(self):
        for b in BASES:
            self.assertEqual(carries(1, b), [[b]])

    def test_two_figures(self):
        for b in BASES:
            most = b * (b + 1) // 2
            self.assertEqual(carries(2, b), [[most, b * b - most], [b * b - most, most]])

    def test_somewhat_beyond_the_bounds(self):
        for m, b in [(13, 2), (13, 10 ** 12), (14, 5), (2, 10 ** 13), (12, 10 ** 30)]:
            self.assertEqual(carries(m, b), carries_by_turns(m, b), (m, b))
            self.assertEqual(falls_table(m, b), carries_by_turns(m, b), (m, b))


class FallsTableTest(unittest.TestCase):
    def compare(self, order, b):
        self.assertEqual(falls_table(len(order), b)[falls_by_hand(order)], falls_one_by_one(order, b), (order, b))

    def test_all_orders_of_few_cards(self):
        for m, most in [(1, 40), (2, 15), (3, 6), (4, 4), (5, 2)]:
            for b in range(1, most + 1):
                for order in all_orders(m):
                    self.compare(order, b)

    def test_several_orders_with_each_number_of_falls(self):
        for m, b in [(4, 7), (5, 3), (5, 4), (6, 2), (6, 3), (7, 2)]:
            seen = [0] * m
            for order in all_orders(m)[::5 if m < 7 else 37] + [list(range(m - 1, -1, -1))]:
                if seen[falls_by_hand(order)] < 3:
                    seen[falls_by_hand(order)] += 1
                    self.compare(order, b)
            self.assertNotIn(0, seen)

    def test_twelve_cards(self):
        for order in large_orders(12):
            self.compare(order, 2)

    def test_same_as_the_carries(self):
        for m in range(1, 13):
            for b in BASES:
                self.assertEqual(falls_table(m, b), carries(m, b), (m, b))


class BothTablesTest(unittest.TestCase):
    def tables(self):
        for ask in [carries, falls_table]:
            for m in range(1, 13):
                for b in BASES:
                    yield (m, b, ask(m, b))

    def test_kinds(self):
        for m, b, table in self.tables():
            self.assertIs(table.__class__, list)
            self.assertEqual(len(table), m)
            for row in table:
                self.assertIs(row.__class__, list)
                self.assertEqual([number.__class__ for number in row], [int] * m)
                self.assertGreaterEqual(min(row), 0)

    def test_each_list_comes_to_b_to_the_m(self):
        for m, b, table in self.tables():
            self.assertEqual([sum(row) for row in table], [b ** m] * m, (m, b))

    def test_table_of_a_times_b(self):
        for m in range(1, 13):
            for a, b in [(1, 1), (1, 10 ** 12), (2, 2), (2, 3), (3, 10), (12, 13), (399, 401), (10 ** 6, 10 ** 6),
                         (2, 5 * 10 ** 11), (97, 10309278350)]:
                for ask in [carries, falls_table]:
                    one = ask(m, a)
                    other = ask(m, b)
                    self.assertEqual(product(one, other), ask(m, a * b), (m, a, b))
                    self.assertEqual(product(other, one), ask(m, a * b), (m, a, b))

    def test_row_of_orders_by_falls_is_kept(self):
        for m, b, table in self.tables():
            kept = [b ** m * count for count in by_falls(m)]
            self.assertEqual(multiplied(by_falls(m), table), kept, (m, b))


class ProductTest(unittest.TestCase):
    def test_examples(self):
        self.assertEqual(product([[3]], [[-7]]), [[-21]])
        self.assertEqual(product([[1, 2], [3, 4]], [[0, 1], [1, 0]]), [[2, 1], [4, 3]])
        self.assertEqual(product([[0, 1], [1, 0]], [[1, 2], [3, 4]]), [[3, 4], [1, 2]])
        self.assertEqual(product([[1, -2], [0, 5]], [[-3, 4], [6, -1]]), [[-15, 6], [30, -5]])

    def test_by_the_rule(self):
        for m in range(1, 13):
            for seed in range(1, 8):
                one = mixed_table(m, seed)
                other = mixed_table(m, seed + 20)
                self.assertEqual(product(one, other), product_by_hand(one, other), (one, other))
                self.assertEqual(product(other, one), product_by_hand(other, one), (one, other))
                self.assertEqual(product(one, one), product_by_hand(one, one), one)

    def test_many_figures(self):
        for m in [1, 2, 12]:
            one = [[number * (10 ** 299 + 7) for number in row] for row in mixed_table(m, 4)]
            other = [[number * (10 ** 298 - 3) for number in row] for row in mixed_table(m, 5)]
            self.assertEqual(product(one, other), product_by_hand(one, other))

    def test_noughts(self):
        for m in [1, 2, 12]:
            noughts = [[0] * m for i in range(m)]
            self.assertEqual(product(noughts, mixed_table(m, 1)), noughts)
            self.assertEqual(product(mixed_table(m, 1), noughts), noughts)


class MultipliedTest(unittest.TestCase):
    def test_examples(self):
        self.assertEqual(multiplied([5], [[-3]]), [-15])
        self.assertEqual(multiplied([1, 2], [[3, 4], [5, 6]]), [13, 16])
        self.assertEqual(multiplied([-1, 2], [[3, -4], [0, 6]]), [-3, 16])

    def test_by_the_rule(self):
        for m in range(1, 13):
            for seed in range(1, 8):
                table = mixed_table(m, seed)
                row = [part - 9 for part in mixed_word(19, m, seed + 3)]
                told = multiplied(row, table)
                self.assertIs(told.__class__, list)
                self.assertEqual(told, [sum(row[i] * table[i][j] for i in range(m)) for j in range(m)], (row, table))

    def test_one_number_of_the_row_picks_its_list(self):
        for m in range(1, 13):
            table = mixed_table(m, 6)
            for i in range(m):
                self.assertEqual(multiplied([1 if place == i else 0 for place in range(m)], table), table[i])

    def test_many_figures(self):
        table = [[10 ** 299 + 1, -3], [0, 10 ** 299 - 1]]
        row = [10 ** 298, -10 ** 299]
        self.assertEqual(multiplied(row, table), [10 ** 298 * (10 ** 299 + 1),
                                                  -3 * 10 ** 298 - 10 ** 299 * (10 ** 299 - 1)])


if __name__ == "__main__":
    unittest.main()

import unittest
from itertools import product as choices

from riftcarry.choosing import by_falls
from riftcarry.columns import added, carried
from riftcarry.errors import NoFigures
from riftcarry.tables import carries, multiplied, product
from tests.samples import check_refused, mixed_word

BASES = [2, 3, 4, 5, 6, 7, 8, 9, 10, 60, 10 ** 12, 10 ** 29 + 7, 10 ** 30 - 1, 10 ** 30]


def as_whole(figures, b):
    return sum(figure * b ** column for column, figure in enumerate(figures))


def as_figures(number, b, columns):
    return [number // b ** column % b for column in range(columns)]


def carried_by_wholes(numbers, b):
    """What goes beyond the columns so far, when the numbers' ends are added as wholes."""
    told = []
    ends = 0
    for column, figures in enumerate(zip(*numbers)):
        ends += sum(figures) * b ** column
        told.append(ends // b ** (column + 1))
    return told


def mixed_numbers(count, columns, b, seed):
    """Numbers without a pattern; figures of many signs are put together from small ones."""
    numbers = []
    for place in range(count):
        parts = [mixed_word(1009, columns, seed + place * 17 + step) for step in range(11)]
        numbers.append([as_whole(figure, 1009) % b for figure in zip(*parts)])
    return numbers


def sample_numbers(b):
    for count in [1, 2, 3, 59, 60]:
        for columns in [0, 1, 2, 59, 60]:
            yield [[0] * columns for place in range(count)]
            yield [[b - 1] * columns for place in range(count)]
            yield [[b - 1] * columns] + [[0] * columns for place in range(count - 1)]
            yield [[0] * columns for place in range(count - 1)] + [[b - 1] * columns]
            yield [as_figures(1, b, columns) for place in range(count - 1)] + [[b - 1] * columns]
            yield [[0] * (columns - 1) + [b - 1] * min(columns, 1) for place in range(count)]
            for seed in [1, 2]:
                yield mixed_numbers(count, columns, b, seed)


class AddedTest(unittest.TestCase):
    def compare(self, numbers, b):
        told = added(numbers, b)
        columns = len(numbers[0])
        self.assertIs(told.__class__, tuple)
        self.assertEqual([part.__class__ for part in told], [list, list])
        self.assertEqual([part.__class__ for part in told[0] + told[1]], [int] * (2 * columns))
        figures, carried_on = told
        total = sum(as_whole(number, b) for number in numbers)
        self.assertEqual(figures, as_figures(total, b, columns), (numbers, b))
        self.assertEqual(carried_on, carried_by_wholes(numbers, b), (numbers, b))

    def check_columns(self, numbers, b):
        figures, carried_on = added(numbers, b)
        carried_in = [0] + carried_on
        for column, figure in enumerate(figures):
            come_to = sum(number[column] for number in numbers) + carried_in[column]
            self.assertEqual(come_to, figure + b * carried_on[column], (numbers, b, column))
            self.assertTrue(0 <= figure < b, (numbers, b, column))
            # What is carried is at most one less than there are numbers.
            self.assertTrue(0 <= carried_on[column] < len(numbers), (numbers, b, column))

    def test_examples(self):
        self.assertEqual(added([[7]], 10), ([7], [0]))
        self.assertEqual(added([[7], [5]], 10), ([2], [1]))
        self.assertEqual(added([[9, 9], [1, 0]], 10), ([0, 0], [1, 1]))
        self.assertEqual(added([[5, 9, 0], [7, 0, 0], [8, 0, 0]], 10), ([0, 1, 1], [2, 1, 0]))
        self.assertEqual(added([[1, 0, 1], [1, 1, 1], [1, 1, 0]], 2), ([1, 1, 1], [1, 1, 1]))
        self.assertEqual(added([[2, 1], [2, 2], [2, 0], [2, 1]], 3), ([2, 0], [2, 2]))
        self.assertEqual(added([[10 ** 30 - 1, 3], [2, 10 ** 30 - 5]], 10 ** 30), ([1, 10 ** 30 - 1], [1, 0]))

    def test_no_figures(self):
        for count in [1, 2, 60]:
            for b in BASES:
                self.assertEqual(added([[] for place in range(count)], b), ([], []))

    def test_one_number_is_its_own_sum(self):
        for b in BASES:
            for columns in [1, 2, 60]:
                number = mixed_numbers(1, columns, b, 3)[0]
                self.assertEqual(added([number], b), (number, [0] * columns))

    def test_many_greatest_figures(self):
        # Sixty times b - 1 and 59 carried in come to 60 b - 1: the most that is ever carried stays.
        for b in [60, 61, 10 ** 12, 10 ** 30]:
            figures, carried_on = added([[b - 1] * 60 for place in range(60)], b)
            self.assertEqual(figures, [b - 60] + [b - 1] * 59)
            self.assertEqual(carried_on, [59] * 60)
        figures, carried_on = added([[1] * 60 for place in range(60)], 2)
        self.assertEqual(carried_on[:7], [30, 45, 52, 56, 58, 59, 59])
        self.assertEqual(carried_on[7:], [59] * 53)

    def test_as_wholes(self):
        for b in BASES:
            for numbers in sample_numbers(b):
                self.compare(numbers, b)

    def test_column_by_column(self):
        for b in BASES:
            for numbers in sample_numbers(b):
                self.check_columns(numbers, b)

    def test_all_small_ones(self):
        for b, count, columns in [(2, 1, 3), (2, 2, 3), (2, 3, 3), (3, 2, 2), (3, 3, 2), (4, 2, 2), (10, 3, 1)]:
            written = [list(figures) for figures in choices(range(b), repeat=columns)]
            for numbers in choices(written, repeat=count):
                self.compare(list(numbers), b)
                self.check_columns(list(numbers), b)

    def test_one_list_several_times(self):
        number = [9, 4, 5]
        self.assertEqual(added([number, number, number], 10), ([7, 4, 6], [2, 1, 1]))
        self.assertEqual(number, [9, 4, 5])

    def test_somewhat_beyond_the_bounds(self):
        for count, columns, b in [(61, 3, 10), (61, 61, 2), (2, 70, 10 ** 31), (100, 100, 10 ** 30 + 1)]:
            self.compare(mixed_numbers(count, columns, b, 4), b)
            self.compare([[b - 1] * columns for place in range(count)], b)


class NoFiguresTest(unittest.TestCase):
    def test_no_numbers(self):
        for b in BASES:
            check_refused(self, NoFigures, added, [], b)

    def test_no_figure(self):
        for b in BASES:
            wrong = [b, b + 1, 2 * b, 10 ** 299, -1, -b, 1 - b, -10 ** 299, True, False, None, "", "0", "1", " ", "p"]
            for count, columns in [(1, 1), (1, 3), (2, 1), (3, 3), (60, 60)]:
                for part in wrong:
                    for place in sorted({0, count // 2, count - 1}):
                        for column in sorted({0, columns // 2, columns - 1}):
                            numbers = [[1] * columns for number in range(count)]
                            numbers[place][column] = part
                            check_refused(self, NoFigures, added, numbers, b)

    def test_figures_of_another_base(self):
        self.assertEqual(added([[9], [9]], 10), ([8], [1]))
        check_refused(self, NoFigures, added, [[9], [9]], 9)
        check_refused(self, NoFigures, added, [[0, 2]], 2)

    def test_unlike_counts_of_figures(self):
        for b in BASES:
            for count in [2, 3, 60]:
                for columns in [0, 1, 2, 59]:
                    for place in sorted({0, 1, count // 2, count - 1}):
                        for others in [columns + 1, 60]:
                            longer = [[1] * columns for number in range(count)]
                            longer[place] = [1] * others
                            check_refused(self, NoFigures, added, longer, b)
                            shorter = [[0] * others for number in range(count)]
                            shorter[place] = [0] * columns
                            check_refused(self, NoFigures, added, shorter, b)

    def test_both_wrong(self):
        check_refused(self, NoFigures, added, [[0, 10], [1]], 10)
        check_refused(self, NoFigures, added, [[], [None]], 10)
        check_refused(self, NoFigures, added, [["9"], [9, 9]], 10)

    def test_no_figure_where_all_come_to_nought(self):
        check_refused(self, NoFigures, added, [[False], [False]], 2)
        check_refused(self, NoFigures, added, [[-1], [1]], 10)


def carried_one_by_one(m, b, columns):
    """All choices of m numbers, added one by one."""
    row = [0] * m
    wholes = range(b ** columns)
    for numbers in choices(wholes, repeat=m):
        row[sum(numbers) // b ** columns] += 1
    return row


class CarriedTest(unittest.TestCase):
    def test_examples(self):
        self.assertEqual(carried(1, 2, 0), [1])
        self.assertEqual(carried(1, 10, 3), [1000])
        self.assertEqual(carried(2, 10, 1), [55, 45])
        self.assertEqual(carried(2, 2, 2), [10, 6])
        self.assertEqual(carried(3, 2, 1), [4, 4, 0])
        self.assertEqual(carried(3, 2, 2), [20, 40, 4])

    def test_one_by_one(self):
        for m, b, columns in [(1, 2, 5), (1, 7, 2), (2, 2, 1), (2, 2, 5), (2, 3, 3), (2, 5, 2), (2, 10, 2), (3, 2, 2),
                              (3, 2, 4), (3, 3, 2), (3, 4, 2), (3, 10, 1), (4, 2, 3), (4, 3, 2), (5, 2, 2), (5, 4, 1),
                              (6, 2, 2), (6, 3, 1), (7, 2, 1), (8, 2, 1), (12, 2, 1)]:
            self.assertEqual(carried(m, b, columns), carried_one_by_one(m, b, columns), (m, b, columns))

    def test_by_adding(self):
        for m, b, columns in [(1, 3, 2), (2, 2, 3), (2, 3, 2), (2, 4, 2), (3, 2, 2), (3, 3, 1), (4, 2, 2), (5, 2, 1)]:
            row = [0] * m
            written = [list(figures) for figures in choices(range(b), repeat=columns)]
            for numbers in choices(written, repeat=m):
                row[added(list(numbers), b)[1][-1]] += 1
            self.assertEqual(carried(m, b, columns), row, (m, b, columns))

    def test_no_columns(self):
        for m in range(1, 13):
            for b in range(2, 61):
                self.assertEqual(carried(m, b, 0), [1] + [0] * (m - 1))

    def test_product_of_tables(self):
        for m in range(1, 13):
            for b in [2, 3, 10, 11, 59, 60]:
                table = carries(m, b)
                told = table
                for columns in range(1, 21):
                    self.assertEqual(carried(m, b, columns), told[0], (m, b, columns))
                    told = product(told, table)

    def test_table_of_the_power(self):
        for m in range(1, 13):
            for b in [2, 3, 4, 7, 9, 10, 12, 30, 59, 60]:
                for columns in [0, 1, 2, 3, 7, 19, 20]:
                    self.assertEqual(carried(m, b, columns), carries(m, b ** columns)[0], (m, b, columns))

    def test_each_choice_counted_once(self):
        for m in range(1, 13):
            for b, columns in [(2, 1), (2, 20), (10, 12), (60, 20)]:
                told = carried(m, b, columns)
                self.assertIs(told.__class__, list)
                self.assertEqual([number.__class__ for number in told], [int] * m)
                self.assertEqual(sum(told), b ** (m * columns))
                # One column more, from what these carry.
                self.assertEqual(carried(m, b, columns + 1), multiplied(told, carries(m, b)))

    def test_far_along_as_falls(self):
        # With many columns, as many choices carry j as orders have j falls, but for a share that goes away.
        for m in range(1, 9):
            told = carried(m, 60, 20)
            orders = sum(by_falls(m))
            self.assertEqual([(number * orders + sum(told) // 2) // sum(told) for number in told], by_falls(m))

    def test_somewhat_beyond_the_bounds(self):
        for m, b, columns in [(13, 2, 1), (13, 60, 20), (3, 61, 21), (12, 100, 25), (2, 10, 40)]:
            self.assertEqual(carried(m, b, columns), carries(m, b ** columns)[0], (m, b, columns))


if __name__ == "__main__":
    unittest.main()

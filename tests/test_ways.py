import unittest
from math import comb

from riftcarry.errors import NoRiffle, NoWay
from riftcarry.ways import how_many, number_of, plain, way
from tests.samples import (all_marks, all_orders, all_words, large_orders, mixed, mixed_marks, mixed_word,
                           riffled_by_hand, sample_marks, sample_words, wrong_words)

MANY_FIGURES = 10 ** 299


def heaps_of(order, word):
    return [word[order.index(card)] for card in range(len(order))]


def ways_by_order(marks, n):
    """All words gone through one by one: for each order the words that lead to it, sorted by their heaps."""
    found = {tuple(order): [] for order in all_orders(n)}
    for word in all_words(len(marks), n):
        found[tuple(riffled_by_hand(list(range(n)), marks, word))].append(word)
    for order, words in found.items():
        words.sort(key=lambda word: heaps_of(order, word))
    return found


def counted_heap_by_heap(order, marks):
    """How many ways there are, by how many cards each heap in turn can take."""
    n = len(order)
    above = [order.index(card) for card in range(n)]
    ways = [1] + [0] * n
    for turned in marks:
        later = list(ways)
        for start in range(n):
            for end in range(start + 1, n + 1):
                stretch = above[start:end]
                if stretch != sorted(stretch, reverse=turned):
                    break
                later[end] += ways[start]
        ways = later
    return ways[n]


def numbers_to_try(count):
    numbers = {0, 1, 2, count // 3, count // 2, count - 2, count - 1}
    return sorted(number for number in numbers if 0 <= number < count)


class FewCardsTest(unittest.TestCase):
    def check(self, order, marks, words):
        case = (order, marks)
        self.assertEqual(how_many(order, marks), len(words), case)
        self.assertEqual([way(order, marks, number) for number in range(len(words))], words, case)
        self.assertEqual([number_of(order, marks, word) for word in words], list(range(len(words))), case)
        for number in [-1, -2, -len(words) - 1, -MANY_FIGURES, len(words), len(words) + 1, MANY_FIGURES]:
            with self.assertRaises(NoWay):
                way(order, marks, number)

    def check_all(self, n, heaps):
        for marks in all_marks(heaps):
            found = ways_by_order(marks, n)
            for order, words in found.items():
                self.check(list(order), marks, words)
            self.assertEqual(sum(how_many(list(order), marks) for order in found), heaps ** n)

    def test_one_card(self):
        for heaps in range(1, 6):
            self.check_all(1, heaps)

    def test_two_cards(self):
        for heaps in range(1, 6):
            self.check_all(2, heaps)

    def test_three_cards(self):
        for heaps in range(1, 5):
            self.check_all(3, heaps)

    def test_four_cards(self):
        for heaps in range(1, 5):
            self.check_all(4, heaps)

    def test_five_cards(self):
        for heaps in range(1, 4):
            self.check_all(5, heaps)

    def test_six_cards(self):
        self.check_all(6, 2)

    def test_words_that_lead_elsewhere(self):
        for n in range(1, 5):
            for heaps in range(1, 4):
                for marks in all_marks(heaps):
                    for order, words in ways_by_order(marks, n).items():
                        for word in all_words(heaps, n):
                            if word not in words:
                                with self.assertRaises(NoWay):
                                    number_of(list(order), marks, word)

    def test_orders_without_any_way(self):
        self.assertEqual(how_many([1, 0], [False]), 0)
        self.assertEqual(how_many([2, 1, 0], [False, False]), 0)
        self.assertEqual(how_many([0, 1, 2], [True, True]), 0)
        with self.assertRaises(NoWay):
            way([1, 0], [False], 0)
        with self.assertRaises(NoWay):
            number_of([1, 0], [False], [0, 0])

    def test_examples(self):
        ways = [way([0, 1, 2], [False, False], number) for number in range(4)]
        self.assertEqual(ways, [[0, 0, 0], [0, 0, 1], [0, 1, 1], [1, 1, 1]])
        ways = [way([2, 0, 1], [False, True], number) for number in range(2)]
        self.assertEqual(ways, [[1, 0, 0], [1, 0, 1]])


class ManyCardsTest(unittest.TestCase):
    def check_number(self, order, marks, number):
        word = way(order, marks, number)
        self.assertEqual(riffled_by_hand(list(range(len(order))), marks, word), order)
        self.assertEqual(number_of(order, marks, word), number)
        return heaps_of(order, word)

    def check(self, order, marks):
        count = how_many(order, marks)
        self.assertEqual(count, counted_heap_by_heap(order, marks))
        if count:
            heaps = [self.check_number(order, marks, number) for number in numbers_to_try(count)]
            for one, other in zip(heaps, heaps[1:]):
                self.assertLess(one, other)
        for number in [-1, -MANY_FIGURES, count, count + 1, count + MANY_FIGURES]:
            with self.assertRaises(NoWay):
                way(order, marks, number)

    def test_many_heaps(self):
        for n in [1, 2, 30, 60]:
            for order in large_orders(n):
                for heaps in [1, 2, 40, 400]:
                    for marks in sample_marks(heaps):
                        self.check(order, marks)

    def test_words_are_ways_of_where_they_lead(self):
        for n in [7, 60]:
            for heaps in [1, 2, 5, 60, 400]:
                for marks in sample_marks(heaps):
                    for word in sample_words(heaps, n):
                        order = riffled_by_hand(list(range(n)), marks, word)
                        number = number_of(order, marks, word)
                        self.assertLess(number, how_many(order, marks))
                        self.assertEqual(way(order, marks, number), word)

    def test_ways_beside_one_another(self):
        order = riffled_by_hand(list(range(60)), mixed_marks(90), mixed_word(90, 60))
        marks = mixed_marks(90)
        middle = number_of(order, marks, mixed_word(90, 60))
        numbers = range(max(0, middle - 20), min(how_many(order, marks), middle + 20))
        heaps = [self.check_number(order, marks, number) for number in numbers]
        self.assertEqual(heaps, sorted(heaps))

    def test_first_order_by_sixty_cards(self):
        upward = list(range(60))
        self.assertEqual(way(upward, [False] * 400, 0), [0] * 60)
        self.assertEqual(way(upward, [False] * 400, how_many(upward, [False] * 400) - 1), [399] * 60)
        self.assertEqual(how_many(upward, [True] * 60), 1)
        self.assertEqual(way(upward, [True] * 60, 0), upward)
        self.assertEqual(how_many(upward, [True] * 59), 0)


class NumberOfRefusedTest(unittest.TestCase):
    def test_words_that_are_none(self):
        for n in [1, 2, 5, 60]:
            for heaps in [1, 2, 400]:
                for word in wrong_words(heaps, n):
                    for order in [list(range(n)), mixed(n)]:
                        with self.assertRaises(NoRiffle):
                            number_of(order, mixed_marks(heaps), word)

    def test_words_that_are_none_where_no_way_is(self):
        for word in [[0], [0, 0, 0], [0, 1], [0, None], [False, 0], []]:
            with self.assertRaises(NoRiffle):
                number_of([1, 0], [False], word)

    def test_sixty_cards_elsewhere(self):
        for heaps in [1, 2, 400]:
            for marks in sample_marks(heaps):
                for word in sample_words(heaps, 60):
                    order = riffled_by_hand(list(range(60)), marks, word)
                    order[10], order[40] = order[40], order[10]
                    with self.assertRaises(NoWay):
                        number_of(order, marks, word)


class PlainTest(unittest.TestCase):
    def test_few_cards_one_by_one(self):
        for n in range(1, 6):
            for heaps in range(1, 4):
                for order, words in ways_by_order([False] * heaps, n).items():
                    self.assertEqual(plain(list(order), heaps), len(words))

    def test_against_how_many(self):
        for n in [1, 2, 3, 10, 60]:
            for order in large_orders(n):
                for heaps in [1, 2, 3, 10, 30, 31, 59, 60, 61, 400]:
                    self.assertEqual(plain(order, heaps), how_many(order, [False] * heaps), (order, heaps))

    def test_fewer_heaps_than_runs(self):
        for n in range(2, 61):
            downward = list(range(n))[::-1]
            for heaps in range(1, n):
                self.assertEqual(plain(downward, heaps), 0)
            self.assertEqual(plain(downward, n), 1)
            self.assertEqual(plain(downward, n + 1), n + 1)

    def test_many_heaps(self):
        for heaps in [10 ** 6, 10 ** 12 - 1, 10 ** 12]:
            for n in [1, 2, 59, 60]:
                upward = list(range(n))
                self.assertEqual(plain(upward, heaps), comb(heaps + n - 1, n))
                self.assertEqual(plain(upward[::-1], heaps), comb(heaps, n))
            self.assertEqual(plain([2, 0, 1], heaps), comb(heaps + 1, 3))
            self.assertEqual(plain([1, 3, 0, 2], heaps), comb(heaps + 1, 4))

    def test_all_words_are_shared_out(self):
        for heaps in [1, 2, 401, 10 ** 12]:
            for n in range(1, 6):
                self.assertEqual(sum(plain(order, heaps) for order in all_orders(n)), heaps ** n)


if __name__ == "__main__":
    unittest.main()

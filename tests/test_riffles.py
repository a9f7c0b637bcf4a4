import unittest
from itertools import product

from riftcarry.errors import NoRiffle
from riftcarry.orders import is_order
from riftcarry.riffles import is_word, riffled, sizes, undone
from tests.samples import (WRONG_PARTS, all_marks, all_orders, all_words, large_orders, mixed, mixed_marks, mixed_word,
                           riffled_by_hand, sample_marks, sample_words, wrong_words)


class IsWordTest(unittest.TestCase):
    def test_all_short_lists(self):
        parts = [-1, 0, 1, 2, 3, True, False, None, "1", 10 ** 299]
        for heaps in range(1, 4):
            # repr tells True from 1, where == does not.
            good = {repr(word) for n in range(1, 4) for word in all_words(heaps, n)}
            for length in range(4):
                for drawn in product(parts, repeat=length):
                    word = list(drawn)
                    for n in range(1, 4):
                        right = length == n and repr(word) in good
                        self.assertIs(is_word([False] * heaps, word, n), right, (heaps, word, n))

    def test_each_count_of_cards(self):
        for n in range(1, 61):
            for heaps in [1, 2, 7, 60, 399, 400]:
                for word in sample_words(heaps, n):
                    self.assertIs(is_word(mixed_marks(heaps), word, n), True, (heaps, word))

    def test_each_count_of_heaps(self):
        for heaps in range(1, 401):
            marks = mixed_marks(heaps)
            self.assertIs(is_word(marks, [heaps - 1], 1), True)
            self.assertIs(is_word(marks, [heaps], 1), False)
            self.assertIs(is_word(marks, [0] * 59 + [heaps - 1], 60), True)
            self.assertIs(is_word(marks, [0] * 59 + [heaps], 60), False)

    def test_too_long_and_too_short(self):
        for n in range(1, 61):
            for length in range(101):
                if length != n:
                    self.assertIs(is_word([False, True], [0] * length, n), False, (n, length))

    def test_wrong_words(self):
        for n in [1, 2, 3, 59, 60]:
            for heaps in [1, 2, 3, 400]:
                for word in wrong_words(heaps, n):
                    for marks in sample_marks(heaps):
                        self.assertIs(is_word(marks, word, n), False, (heaps, n, word))

    def test_one_wrong_part_at_each_place(self):
        for place in range(60):
            for part in [*WRONG_PARTS, 5, 6, 400]:
                word = mixed_word(5, 60)
                word[place] = part
                self.assertIs(is_word(mixed_marks(5), word, 60), False, (place, part))


class SizesTest(unittest.TestCase):
    def test_examples(self):
        self.assertEqual(sizes([False], [0]), [1])
        self.assertEqual(sizes([False, True], [1, 0, 1]), [1, 2])
        self.assertEqual(sizes([False, True, False, True], [3, 1, 1, 3, 1]), [0, 3, 0, 2])

    def test_counted_one_by_one(self):
        for n in [1, 2, 5, 60]:
            for heaps in [1, 2, 3, 60, 400]:
                for word in sample_words(heaps, n):
                    for marks in sample_marks(heaps):
                        told = sizes(marks, word)
                        self.assertEqual(told, [sum(part == heap for part in word) for heap in range(heaps)])
                        self.assertEqual(sum(told), n)

    def test_parts_that_are_no_heaps(self):
        for heaps in [1, 2, 400]:
            for part in [*WRONG_PARTS, heaps, heaps + 1]:
                for word in [[part], [0, part], [part, 0]]:
                    with self.assertRaises(NoRiffle):
                        sizes([False] * heaps, word)


class RiffledTest(unittest.TestCase):
    def check(self, order, marks, word):
        told = riffled(order, marks, word)
        self.assertEqual(told, riffled_by_hand(order, marks, word), (order, marks, word))
        self.assertIs(is_order(told), True)
        self.assertEqual(undone(told, marks, word), order, (order, marks, word))
        back = undone(order, marks, word)
        self.assertEqual(riffled_by_hand(back, marks, word), order, (order, marks, word))
        self.assertEqual(riffled(back, marks, word), order, (order, marks, word))

    def test_examples(self):
        self.assertEqual(riffled([0, 1, 2, 3], [False, False], [1, 0, 1, 0]), [2, 0, 3, 1])
        self.assertEqual(riffled([0, 1, 2, 3], [False, True], [1, 0, 1, 0]), [3, 0, 2, 1])
        self.assertEqual(riffled([0, 1, 2, 3], [True, False], [1, 0, 1, 0]), [2, 1, 3, 0])
        self.assertEqual(riffled([3, 1, 0, 2], [True, True], [0, 1, 1, 0]), [1, 2, 0, 3])
        self.assertEqual(undone([3, 0, 2, 1], [False, True], [1, 0, 1, 0]), [0, 1, 2, 3])

    def test_three_heaps_of_which_one_is_empty(self):
        self.assertEqual(riffled([0, 1, 2, 3, 4], [True, True, False], [2, 0, 0, 2, 0]), [3, 2, 1, 4, 0])
        self.assertEqual(riffled([0, 1, 2, 3, 4], [True, False, True], [1, 2, 2, 2, 1]), [0, 4, 3, 2, 1])

    def test_one_heap(self):
        for n in range(1, 61):
            for order in large_orders(n):
                self.assertEqual(riffled(order, [False], [0] * n), order)
                self.assertEqual(riffled(order, [True], [0] * n), order[::-1])
                self.assertEqual(undone(order, [False], [0] * n), order)
                self.assertEqual(undone(order, [True], [0] * n), order[::-1])

    def test_one_card(self):
        for heaps in [1, 2, 3, 59, 400]:
            for marks in sample_marks(heaps):
                for heap in {0, heaps // 2, heaps - 1}:
                    self.check([0], marks, [heap])

    def test_all_of_few_cards(self):
        for n in range(1, 5):
            for heaps in range(1, 4):
                for marks in all_marks(heaps):
                    for word in all_words(heaps, n):
                        for order in [mixed(n)] if n == 4 else all_orders(n):
                            self.check(order, marks, word)

    def test_many_cards_and_heaps(self):
        for n in [5, 13, 59, 60]:
            for heaps in [1, 2, 5, 60, 399, 400]:
                for marks in sample_marks(heaps):
                    for word in sample_words(heaps, n):
                        self.check(mixed(n), marks, word)

    def test_words_that_are_none(self):
        for n in [1, 2, 5, 60]:
            for heaps in [1, 2, 400]:
                for word in wrong_words(heaps, n):
                    for marks in [[False] * heaps, mixed_marks(heaps)]:
                        with self.assertRaises(NoRiffle):
                            riffled(mixed(n), marks, word)
                        with self.assertRaises(NoRiffle):
                            undone(mixed(n), marks, word)

    def test_word_of_another_length(self):
        for length in range(101):
            if length != 7:
                with self.assertRaises(NoRiffle):
                    riffled(mixed(7), [False, True], [1] * length)
                with self.assertRaises(NoRiffle):
                    undone(mixed(7), [False, True], [1] * length)


if __name__ == "__main__":
    unittest.main()

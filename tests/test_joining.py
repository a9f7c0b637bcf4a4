import unittest
from collections import Counter

from riftcarry.errors import NoRiffle
from riftcarry.joining import joined, joined_marks, parted
from riftcarry.riffles import is_word
from riftcarry.ways import how_many
from tests.samples import (all_marks, all_orders, all_words, mixed, mixed_marks, mixed_word, riffled_by_hand,
                           sample_marks, sample_words, wrong_words)

# Counts of heaps on either side whose product is at most 400.
MANY_HEAPS = [(1, 1), (1, 400), (400, 1), (20, 20), (2, 200), (133, 3), (7, 11)]


def heap_of_each_card(order, word):
    """For each card the heap into which it is cut, by the sizes alone."""
    return dict(zip(order, sorted(word)))


def joined_by_hand(marks, word, others, more):
    """Each card followed through both riffles, its joined heap reckoned as the document tells it."""
    start = list(range(len(word)))
    between = riffled_by_hand(start, marks, word)
    end = riffled_by_hand(between, others, more)
    first_heap = heap_of_each_card(start, word)
    other_heap = heap_of_each_card(between, more)
    b = len(others)
    told = []
    for card in end:
        h = first_heap[card]
        g = b - 1 - other_heap[card] if marks[h] else other_heap[card]
        told.append(h * b + g)
    return told


class JoinedMarksTest(unittest.TestCase):
    def test_examples(self):
        self.assertEqual(joined_marks([False], [False]), [False])
        self.assertEqual(joined_marks([True], [True]), [False])
        self.assertEqual(joined_marks([True], [False]), [True])
        self.assertEqual(joined_marks([False], [True]), [True])
        self.assertEqual(joined_marks([False, True], [False, True]), [False, True, False, True])
        self.assertEqual(joined_marks([True], [False, False, True]), [False, True, True])
        self.assertEqual(joined_marks([False, True], [True, False, False]), [True, False, False, True, True, False])

    def check(self, marks, others):
        told = joined_marks(marks, others)
        b = len(others)
        self.assertEqual(len(told), len(marks) * b)
        for h in range(len(marks)):
            for g in range(b):
                other = b - 1 - g if marks[h] else g
                just_one = [marks[h], others[other]].count(True) == 1
                self.assertIs(told[h * b + g], just_one, (marks, others, h, g))

    def test_all_of_few_heaps(self):
        for a in range(1, 5):
            for b in range(1, 5):
                for marks in all_marks(a):
                    for others in all_marks(b):
                        self.check(marks, others)

    def test_many_heaps(self):
        for a, b in MANY_HEAPS:
            for marks in sample_marks(a):
                for others in sample_marks(b):
                    self.check(marks, others)


class JoinedTest(unittest.TestCase):
    def check(self, marks, word, others, more):
        case = (marks, word, others, more)
        told = joined(marks, word, others, more)
        self.assertEqual(told, joined_by_hand(marks, word, others, more), case)
        both_marks = joined_marks(marks, others)
        self.assertIs(is_word(both_marks, told, len(word)), True, case)
        for order in [list(range(len(word))), mixed(len(word))]:
            behind_both = riffled_by_hand(riffled_by_hand(order, marks, word), others, more)
            self.assertEqual(riffled_by_hand(order, both_marks, told), behind_both, case)
        self.assertEqual(parted(marks, others, told), (word, more), case)

    def test_examples(self):
        self.assertEqual(joined([False, False], [1, 0, 1, 0], [False, False], [0, 1, 1, 0]), [2, 3, 1, 0])
        self.assertEqual(joined([False, True], [1, 0, 1, 0], [True, False], [0, 0, 1, 1]), [0, 3, 2, 1])
        self.assertEqual(parted([False, True], [True, False], [0, 3, 2, 1]), ([1, 0, 1, 0], [0, 0, 1, 1]))

    def test_all_of_few_cards(self):
        for n in range(1, 4):
            for a in range(1, 4):
                for b in range(1, 4):
                    if n < 3 or a * b < 9:
                        self.check_all(n, a, b)

    def test_four_cards(self):
        self.check_all(4, 2, 2)

    def check_all(self, n, a, b):
        for marks in all_marks(a):
            for others in all_marks(b):
                told = []
                for word in all_words(a, n):
                    for more in all_words(b, n):
                        self.check(marks, word, others, more)
                        told.append(joined(marks, word, others, more))
                self.assertEqual(sorted(told), all_words(a * b, n))

    def test_many_cards_and_heaps(self):
        for n in [1, 2, 60]:
            for a, b in MANY_HEAPS:
                for marks in sample_marks(a):
                    for others in sample_marks(b):
                        self.check(marks, mixed_word(a, n), others, mixed_word(b, n, 3))

    def test_words_of_each_form(self):
        for marks in sample_marks(5):
            for others in sample_marks(7):
                for word in sample_words(5, 60):
                    for more in sample_words(7, 60):
                        self.check(marks, word, others, more)

    def test_each_order_comes_as_often_by_two_as_by_one(self):
        for n in range(1, 4):
            for marks in all_marks(2):
                for others in all_marks(3) if n < 3 else all_marks(2):
                    self.count_ways(n, marks, others)

    def count_ways(self, n, marks, others):
        counts = Counter()
        for word in all_words(len(marks), n):
            between = riffled_by_hand(list(range(n)), marks, word)
            for more in all_words(len(others), n):
                counts[tuple(riffled_by_hand(between, others, more))] += 1
        for order in all_orders(n):
            self.assertEqual(how_many(order, joined_marks(marks, others)), counts[tuple(order)])


class PartedTest(unittest.TestCase):
    def check(self, marks, others, word):
        told = parted(marks, others, word)
        self.assertIs(told.__class__, tuple)
        self.assertEqual(len(told), 2)
        self.assertIs(is_word(marks, told[0], len(word)), True)
        self.assertIs(is_word(others, told[1], len(word)), True)
        self.assertEqual(joined_by_hand(marks, told[0], others, told[1]), word)
        self.assertEqual(joined(marks, told[0], others, told[1]), word)

    def test_all_of_few_cards(self):
        for n in range(1, 4):
            for marks in all_marks(2):
                for others in all_marks(3):
                    for word in all_words(6, n):
                        self.check(marks, others, word)

    def test_many_cards_and_heaps(self):
        for n in [1, 2, 59, 60]:
            for a, b in MANY_HEAPS:
                for marks in sample_marks(a):
                    for others in sample_marks(b):
                        self.check(marks, others, mixed_word(a * b, n))
                        self.check(marks, others, [a * b - 1] * n)


class RefusedTest(unittest.TestCase):
    def test_words_of_unlike_length(self):
        for one in range(1, 61):
            for other in [1, 2, 30, 59, 60]:
                if one != other:
                    with self.assertRaises(NoRiffle):
                        joined([False, True], [1] * one, [True, False], [0] * other)
                    with self.assertRaises(NoRiffle):
                        joined([False, True], [1] * other, [True, False], [0] * one)

    def test_words_that_are_none(self):
        for n in [1, 2, 60]:
            for a, b in [(1, 1), (2, 3), (20, 20), (400, 1), (1, 400)]:
                marks = mixed_marks(a)
                others = mixed_marks(b, 2)
                for word in wrong_words(a, n):
                    with self.assertRaises(NoRiffle):
                        joined(marks, word, others, mixed_word(b, n))
                for more in wrong_words(b, n):
                    with self.assertRaises(NoRiffle):
                        joined(marks, mixed_word(a, n), others, more)

    def test_both_words_wrong_alike(self):
        for part in [-1, 2, None, "0", True]:
            with self.assertRaises(NoRiffle):
                joined([False, True], [0, part], [False, True], [0, part])

    def test_first_word_by_its_own_marks(self):
        # Each part is a heap of the other marks, but not of the word's own.
        with self.assertRaises(NoRiffle):
            joined([False], [0, 1], [False, False], [0, 1])
        with self.assertRaises(NoRiffle):
            joined([False, False], [0, 1], [False], [0, 1])

    def test_parted_words_that_are_none(self):
        for n in [1, 2, 60]:
            for a, b in [(1, 1), (2, 3), (20, 20), (400, 1), (1, 400)]:
                for word in wrong_words(a * b, n):
                    # A word is parted by its own length, so only wrong parts make it none.
                    if not is_word([False] * (a * b), word, len(word)):
                        with self.assertRaises(NoRiffle):
                            parted(mixed_marks(a), mixed_marks(b, 2), word)

    def test_parted_from_the_product_on(self):
        self.assertEqual(parted([False, True], [False, True, True], [5]), ([1], [0]))
        for part in [6, 7, -1, 10 ** 299, -10 ** 299]:
            with self.assertRaises(NoRiffle):
                parted([False, True], [False, True, True], [part])


if __name__ == "__main__":
    unittest.main()

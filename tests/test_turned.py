import unittest

from riftcarry.turned import by_first, by_second, rests
from riftcarry.ways import how_many
from tests.samples import all_orders, all_words, large_orders, mixed_word, riffled_by_hand, sample_words

SECOND = [False, True]
FIRST = [True, False]


def least_cuts(marks, n):
    """For each order that comes by two heaps, the least cut of all its riffles, gone through one by one."""
    cuts = {}
    for word in all_words(2, n):
        order = tuple(riffled_by_hand(list(range(n)), marks, word))
        cuts[order] = min(word.count(0), cuts.get(order, n))
    return cuts


def least_cut(marks, order):
    """The least cut by which the order comes, tried out one after the other, or None."""
    for cut in range(len(order) + 1):
        word = [0 if card < cut else 1 for card in order]
        if riffled_by_hand(list(range(len(order))), marks, word) == order:
            return cut
    return None


def first_amid(order):
    """The shortest beginning whose last card is neither least nor greatest of those not ahead of it, or None."""
    for length in range(1, len(order) + 1):
        left = order[length - 1:]
        if min(left) < left[0] < max(left):
            return length
    return None


def first_gap(order):
    """The shortest beginning that is no stretch of cards, or None."""
    for length in range(1, len(order) + 1):
        cards = order[:length]
        if sorted(cards) != list(range(min(cards), max(cards) + 1)):
            return length
    return None


def first_like_rests(order):
    n = len(order)
    for j in range(1, n + 1):
        for place in range(n):
            if place % j == 0 and place + j <= n:
                left = sorted(card % j for card in order[place:place + j])
                if left != list(range(j)):
                    return (j, place)
    return None


def riffled_orders(marks, n):
    words = sample_words(2, n) + [mixed_word(2, n, seed) for seed in range(3, 10)]
    return [riffled_by_hand(list(range(n)), marks, word) for word in words]


def swapped(order, one, other):
    changed = list(order)
    changed[one] = order[other]
    changed[other] = order[one]
    return changed


def orders_to_ask(marks, n):
    """Orders of many cards that come by the heaps, some of them broken at one place or another, and others."""
    orders = large_orders(n) + riffled_orders(marks, n)
    for order in riffled_orders(marks, n):
        for place in range(0, n - 1, 7):
            orders.append(swapped(order, place, place + 1))
            orders.append(swapped(order, place, n - 1))
    return orders


class TurnedTest(unittest.TestCase):
    def check_kinds(self, told):
        self.assertIs(told.__class__, tuple)
        self.assertEqual([part.__class__ for part in told], [bool, int])

    def compare(self, ask, marks, first_break, order, cut):
        told = ask(order)
        self.check_kinds(told)
        expected = (True, cut) if cut is not None else (False, first_break(order))
        self.assertEqual(told, expected, order)
        self.assertEqual(told[0], how_many(order, marks) > 0, order)
        self.assertEqual(told[0], first_break(order) is None, order)

    def go_through_few_cards(self, ask, marks, first_break):
        for n in range(1, 7):
            cuts = least_cuts(marks, n)
            for order in all_orders(n):
                self.compare(ask, marks, first_break, order, cuts.get(tuple(order)))

    def go_through_many_cards(self, ask, marks, first_break):
        for n in [7, 8, 13, 59, 60]:
            for order in orders_to_ask(marks, n):
                self.compare(ask, marks, first_break, order, least_cut(marks, order))


class BySecondTest(TurnedTest):
    def test_examples(self):
        self.assertEqual(by_second([0]), (True, 0))
        self.assertEqual(by_second([0, 1]), (True, 1))
        self.assertEqual(by_second([1, 0]), (True, 0))
        self.assertEqual(by_second([2, 0, 1]), (True, 1))
        self.assertEqual(by_second([1, 0, 2]), (False, 1))
        self.assertEqual(by_second([0, 2, 1, 3]), (False, 2))
        self.assertEqual(by_second([0, 4, 2, 1, 3]), (False, 3))

    def test_against_all_riffles_of_few_cards(self):
        self.go_through_few_cards(by_second, SECOND, first_amid)

    def test_many_cards(self):
        self.go_through_many_cards(by_second, SECOND, first_amid)

    def test_sixty_cards_up_and_down(self):
        upward = list(range(60))
        self.assertEqual(by_second(upward), (True, 59))
        self.assertEqual(by_second(upward[::-1]), (True, 0))

    def test_each_cut_of_sixty_cards(self):
        for cut in range(60):
            order = list(range(cut)) + list(range(59, cut - 1, -1))
            self.assertEqual(by_second(order), (True, cut))
            order = list(range(59, cut, -1)) + list(range(cut + 1))
            self.assertEqual(by_second(order), (True, cut))

    def test_broken_at_each_place_of_sixty_cards(self):
        # Of the last two cards each is the least or the greatest.
        for length in range(1, 59):
            for order in [list(range(60)), list(range(59, -1, -1))]:
                self.assertEqual(by_second(swapped(order, length - 1, length)), (False, length))

    def test_the_first_of_several_breaks(self):
        self.assertEqual(by_second([1, 2, 0, 3]), (False, 1))
        self.assertEqual(by_second([0, 5, 2, 3, 1, 4]), (False, 3))


class ByFirstTest(TurnedTest):
    def test_examples(self):
        self.assertEqual(by_first([0]), (True, 0))
        self.assertEqual(by_first([0, 1]), (True, 0))
        self.assertEqual(by_first([1, 0]), (True, 1))
        self.assertEqual(by_first([1, 2, 0]), (True, 1))
        self.assertEqual(by_first([0, 2, 1]), (False, 2))
        self.assertEqual(by_first([1, 2, 0, 4, 3]), (False, 4))

    def test_against_all_riffles_of_few_cards(self):
        self.go_through_few_cards(by_first, FIRST, first_gap)

    def test_many_cards(self):
        self.go_through_many_cards(by_first, FIRST, first_gap)

    def test_sixty_cards_up_and_down(self):
        upward = list(range(60))
        self.assertEqual(by_first(upward), (True, 0))
        self.assertEqual(by_first(upward[::-1]), (True, 59))

    def test_each_cut_of_sixty_cards(self):
        for cut in range(60):
            upward = list(range(cut, 60))
            downward = list(range(cut - 1, -1, -1))
            self.assertEqual(by_first(upward + downward), (True, cut))
            self.assertEqual(by_first(upward[:1] + downward + upward[1:]), (True, cut))

    def test_broken_at_each_place_of_sixty_cards(self):
        # One card alone is a stretch, and all of them are.
        for length in range(2, 60):
            for order in [list(range(60)), list(range(59, -1, -1))]:
                self.assertEqual(by_first(swapped(order, length - 1, length)), (False, length))

    def test_the_first_of_several_breaks(self):
        self.assertEqual(by_first([0, 2, 1, 4, 3]), (False, 2))
        self.assertEqual(by_first([3, 1, 2, 0, 5, 4]), (False, 2))


class RestsTest(unittest.TestCase):
    def compare(self, order):
        told = rests(order)
        self.assertEqual(told, first_like_rests(order), order)
        if told is not None:
            self.assertIs(told.__class__, tuple)
            self.assertEqual([part.__class__ for part in told], [int, int])
        # The three tellings, each by itself.
        comes = how_many(order, FIRST) > 0
        self.assertEqual([told is None, by_first(order)[0], first_gap(order) is None], [comes] * 3, order)

    def test_examples(self):
        self.assertIsNone(rests([0]))
        self.assertIsNone(rests([1, 0]))
        self.assertIsNone(rests([2, 3, 1, 4, 0]))
        self.assertEqual(rests([0, 2, 1]), (2, 0))
        self.assertEqual(rests([1, 2, 0, 4, 3]), (2, 2))
        self.assertEqual(rests([0, 3, 2, 1]), (3, 0))

    def test_the_least_j_ahead_of_the_least_place(self):
        # Three from place 0 on leave like rests too.
        self.assertEqual(rests([0, 1, 4, 2, 3]), (2, 2))
        self.assertEqual(rests([0, 3, 1, 5, 2, 4]), (2, 2))

    def test_the_least_place_of_several(self):
        self.assertEqual(rests([0, 2, 1, 3, 4, 5]), (2, 0))
        self.assertEqual(rests([0, 1, 2, 4, 3, 5]), (2, 2))

    def test_later_places_and_greater_j(self):
        self.assertEqual(rests([0, 1, 2, 3, 4, 7, 8, 5, 6]), (3, 3))
        self.assertEqual(rests([0, 1, 3, 2]), (3, 0))
        self.assertEqual(rests([0, 1, 2, 4, 3]), (2, 2))

    def test_places_that_j_does_not_divide(self):
        # From place 1 on, 0 and 2 leave like rests by 2, but nothing begins there.
        self.assertIsNone(rests([1, 0, 2]))
        self.assertIsNone(rests([1, 0, 2, 3]))

    def test_fewer_than_j_at_the_end(self):
        # By 2 one card is left, and by 3 two are: too few to leave each rest.
        self.assertIsNone(rests([2, 1, 0]))
        self.assertIsNone(rests([2, 1, 3, 4, 0]))

    def test_all_orders_of_few_cards(self):
        for n in range(1, 8):
            for order in all_orders(n):
                self.compare(order)

    def test_many_cards(self):
        for n in [8, 9, 12, 13, 59, 60]:
            for order in orders_to_ask(FIRST, n):
                self.compare(order)

    def test_sixty_cards(self):
        upward = list(range(60))
        self.assertIsNone(rests(upward))
        self.assertIsNone(rests(upward[::-1]))
        # By each lesser j the two that are swapped are looked at together, or left over together.
        self.assertEqual(rests(swapped(upward, 58, 59)), (59, 0))
        self.assertEqual(rests(swapped(upward, 0, 59)), (2, 0))
        self.assertEqual(rests(swapped(upward, 57, 58)), (2, 56))


if __name__ == "__main__":
    unittest.main()

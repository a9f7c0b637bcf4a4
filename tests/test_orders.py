import unittest
from itertools import product

from riftcarry.orders import falls, first, is_order, laid, places, runs
from tests.samples import all_orders, large_orders, mixed, sample_orders


class IsOrderTest(unittest.TestCase):
    def refuse(self, cards):
        with self.subTest(cards=cards):
            self.assertIs(is_order(cards), False)

    def test_orders_of_each_size(self):
        for order in sample_orders():
            self.assertIs(is_order(order), True, order)

    def test_empty_list(self):
        self.refuse([])

    def test_more_than_sixty_cards(self):
        for n in range(61, 101):
            for order in large_orders(n):
                self.refuse(order)

    def test_card_twice(self):
        for cards in [[0, 0], [1, 1], [0, 1, 1], [0, 0, 2], [2, 1, 2], [0, 0, 1], [1, 0, 1], [2, 0, 1, 2]]:
            self.refuse(cards)

    def test_one_left_out(self):
        for cards in [[1], [0, 2], [2, 1], [3, 0, 2]]:
            self.refuse(cards)

    def test_card_beyond(self):
        for cards in [[5], [0, 1, 3], [1, 2, 3], [10 ** 299, 0]]:
            self.refuse(cards)

    def test_card_below_nought(self):
        for cards in [[-1], [0, -1], [-1, 0, 1], [-2, -1], [-10 ** 299, 0]]:
            self.refuse(cards)

    def test_other_things_for_a_card(self):
        for thing in [True, False, None, "", "0", "1"]:
            self.refuse([thing])
            self.refuse([thing, 1])
            self.refuse([0, thing])
            self.refuse([thing, 0])
            self.refuse([1, thing])
            self.refuse([2, thing, 0])
            self.refuse([thing, thing])

    def test_truths_alone(self):
        self.refuse([False, True])
        self.refuse([True, False])

    def test_one_wrong_part_among_sixty(self):
        for place in range(60):
            for thing in [None, "7", True, False, 60, -1]:
                cards = mixed(60)
                cards[place] = thing
                self.refuse(cards)

    def test_truth_in_the_place_of_its_equal_among_sixty(self):
        for truth in [True, False]:
            cards = mixed(60)
            cards[cards.index(truth)] = truth
            self.refuse(cards)

    def test_all_short_lists(self):
        # repr tells True from 1, where == does not.
        orders = {repr(order) for n in range(1, 5) for order in all_orders(n)}
        for length in range(5):
            for parts in product([-1, 0, 1, 2, 3, 4, True, False, None, "1"], repeat=length):
                cards = list(parts)
                self.assertIs(is_order(cards), repr(cards) in orders, cards)


class FirstTest(unittest.TestCase):
    def test_one_card(self):
        self.assertEqual(first(1), [0])

    def test_each_size(self):
        for n in range(1, 61):
            order = first(n)
            self.assertIs(order.__class__, list)
            self.assertEqual(len(order), n)
            for place in range(n):
                self.assertEqual(order[place], place)


class PlacesTest(unittest.TestCase):
    def test_examples(self):
        self.assertEqual(places([0]), [0])
        self.assertEqual(places([2, 0, 1]), [1, 2, 0])
        self.assertEqual(places([1, 3, 0, 2]), [2, 0, 3, 1])

    def test_how_many_lie_above(self):
        for order in sample_orders():
            self.assertEqual(places(order), [order.index(card) for card in range(len(order))])

    def test_places_of_the_places(self):
        for order in sample_orders():
            self.assertEqual(places(places(order)), order)


class LaidTest(unittest.TestCase):
    def test_example_of_the_document(self):
        self.assertEqual(laid([2, 0, 1], [1, 2, 0]), [0, 1, 2])

    def test_which_is_laid_by_which(self):
        self.assertEqual(laid([1, 0, 2], [0, 2, 1]), [1, 2, 0])
        self.assertEqual(laid([0, 2, 1], [1, 0, 2]), [2, 0, 1])

    def test_one_card(self):
        self.assertEqual(laid([0], [0]), [0])

    def test_all_pairs_of_few_cards(self):
        for n in range(1, 5):
            for one in all_orders(n):
                for other in all_orders(n):
                    told = laid(one, other)
                    self.assertEqual(len(told), n)
                    for p in range(n):
                        self.assertEqual(told[p], one[other[p]])

    def test_sixty_cards(self):
        for one in large_orders(60):
            for other in large_orders(60):
                told = laid(one, other)
                self.assertEqual(len(told), 60)
                for p in range(60):
                    self.assertEqual(told[p], one[other[p]])

    def test_order_and_its_places(self):
        for order in sample_orders():
            upward = list(range(len(order)))
            self.assertEqual(laid(order, places(order)), upward)
            self.assertEqual(laid(places(order), order), upward)

    def test_first_order(self):
        for order in sample_orders():
            self.assertEqual(laid(first(len(order)), order), order)
            self.assertEqual(laid(order, first(len(order))), order)


def rows_one_by_one(order):
    """The runs themselves, by walking up from card to card."""
    rows = [[0]]
    for card in range(1, len(order)):
        if order.index(card - 1) < order.index(card):
            rows[-1].append(card)
        else:
            rows.append([card])
    return rows


class FallsAndRunsTest(unittest.TestCase):
    def test_examples_of_the_document(self):
        self.assertEqual(falls([2, 0, 1]), 1)
        self.assertEqual(runs([2, 0, 1]), 2)
        self.assertEqual(falls([1, 3, 0, 2]), 1)
        self.assertEqual(runs([1, 3, 0, 2]), 3)

    def test_one_card(self):
        self.assertEqual(falls([0]), 0)
        self.assertEqual(runs([0]), 1)

    def test_two_cards(self):
        self.assertEqual([falls([0, 1]), runs([0, 1])], [0, 1])
        self.assertEqual([falls([1, 0]), runs([1, 0])], [1, 2])

    def test_upward_and_downward(self):
        for n in range(1, 61):
            upward = list(range(n))
            self.assertEqual([falls(upward), runs(upward)], [0, 1])
            self.assertEqual([falls(upward[::-1]), runs(upward[::-1])], [n - 1, n])

    def test_falls_one_by_one(self):
        for order in sample_orders():
            count = 0
            for p in range(len(order) - 1):
                if order[p + 1] < order[p]:
                    count += 1
            self.assertEqual(falls(order), count)

    def test_runs_one_by_one(self):
        self.assertEqual(rows_one_by_one([2, 0, 1]), [[0, 1], [2]])
        self.assertEqual(rows_one_by_one([1, 3, 0, 2]), [[0], [1, 2], [3]])
        for order in sample_orders():
            self.assertEqual(runs(order), len(rows_one_by_one(order)))

    def test_places_have_one_run_more_than_falls(self):
        for order in sample_orders():
            self.assertEqual(runs(places(order)), falls(order) + 1)


if __name__ == "__main__":
    unittest.main()

"""The promise as a whole, over the modules together."""

import unittest
from collections import Counter
from fractions import Fraction
from itertools import product as choices
from math import comb, factorial

from riftcarry.choosing import by_falls, choose
from riftcarry.columns import added, carried
from riftcarry.desk import Desk
from riftcarry.even import chance, far
from riftcarry.fractions import shares
from riftcarry.joining import joined, joined_marks, parted
from riftcarry.listing import falls_from
from riftcarry.orders import falls, first, laid, places, runs
from riftcarry.packs import Pack
from riftcarry.riffles import riffled
from riftcarry.tables import carries, falls_table, multiplied, product
from riftcarry.texts import show_marks
from riftcarry.turned import by_first, by_second, rests
from riftcarry.ways import how_many, number_of, plain, way
from tests.samples import all_marks, all_orders, all_words, large_orders, mixed_marks, mixed_word, sample_marks


def words_by_order(n, marks):
    """All words by these marks, sorted by the order that they lead to from the first one."""
    found = {tuple(order): [] for order in all_orders(n)}
    for word in all_words(len(marks), n):
        found[tuple(riffled(first(n), marks, word))].append(word)
    return found


def heaps_of(order, word):
    """For each card in turn, the heap into which it was cut."""
    return [word[order.index(card)] for card in range(len(order))]


class WaysTest(unittest.TestCase):
    def test_all_ways_by_number_and_no_other_riffle(self):
        for n, heaps in [(1, 3), (2, 3), (3, 3), (3, 4), (4, 3), (5, 2)]:
            for marks in all_marks(heaps):
                for order, words in words_by_order(n, marks).items():
                    order = list(order)
                    told = [way(order, marks, number) for number in range(how_many(order, marks))]
                    self.assertEqual(told, sorted(words, key=lambda word: heaps_of(order, word)), (order, marks))
                    self.assertEqual([number_of(order, marks, word) for word in told], list(range(len(told))))

    def test_plain_heaps_by_runs(self):
        for n, most in [(1, 8), (2, 7), (3, 5), (4, 4), (5, 3)]:
            for heaps in range(1, most + 1):
                for order, words in words_by_order(n, [False] * heaps).items():
                    order = list(order)
                    ways = choose(heaps + n - runs(order), n)
                    self.assertEqual(len(words), ways)
                    self.assertEqual(how_many(order, [False] * heaps), ways)
                    self.assertEqual(plain(order, heaps), ways)
                    self.assertEqual(Fraction(*chance(n, heaps, runs(order))), Fraction(ways, heaps ** n))

    def test_many_cards_by_runs(self):
        for n in [7, 20, 60]:
            for order in large_orders(n):
                for heaps in [1, 2, n, 400]:
                    ways = how_many(order, [False] * heaps)
                    self.assertEqual(ways, comb(heaps + n - runs(order), n) if heaps >= runs(order) else 0)
                    self.assertEqual(ways, plain(order, heaps))

    def test_each_way_is_a_riffle_that_leads_to_the_order(self):
        for n in [7, 60]:
            for heaps in [2, 30, 400]:
                for marks in sample_marks(heaps):
                    order = riffled(first(n), marks, mixed_word(heaps, n))
                    ways = how_many(order, marks)
                    for number in {0, ways // 3, ways - 1}:
                        word = way(order, marks, number)
                        self.assertEqual(riffled(first(n), marks, word), order)
                        self.assertEqual(number_of(order, marks, word), number)


class TwoRifflesTest(unittest.TestCase):
    def test_two_do_what_one_does_which_tells_the_two(self):
        for n, a, b in [(1, 2, 2), (2, 2, 2), (3, 2, 2), (2, 3, 2), (2, 2, 3)]:
            for marks, others in choices(all_marks(a), all_marks(b)):
                both = joined_marks(marks, others)
                seen = []
                for word, more in choices(all_words(a, n), all_words(b, n)):
                    one = joined(marks, word, others, more)
                    seen.append(one)
                    self.assertEqual(parted(marks, others, one), (word, more))
                    for order in all_orders(n):
                        two = riffled(riffled(order, marks, word), others, more)
                        self.assertEqual(riffled(order, both, one), two)
                self.assertEqual(sorted(seen), all_words(a * b, n))

    def test_each_order_comes_as_often(self):
        for n, a, b in [(1, 3, 2), (2, 2, 2), (3, 2, 2), (4, 2, 2), (3, 3, 2), (3, 2, 3)]:
            for marks, others in choices(all_marks(a), all_marks(b)):
                ones = words_by_order(n, marks)
                twos = words_by_order(n, others)
                counts = Counter()
                for one, other in choices(all_orders(n), all_orders(n)):
                    counts[tuple(laid(one, other))] += len(ones[tuple(one)]) * len(twos[tuple(other)])
                for order in all_orders(n):
                    self.assertEqual(how_many(order, joined_marks(marks, others)), counts[tuple(order)])

    def test_a_pack_through_its_whole(self):
        for n in [1, 5, 60]:
            for seed in range(10):
                pack = Pack(n)
                for heaps in [3, 5, 4, 6]:
                    pack.riffle(mixed_marks(heaps, seed + heaps), mixed_word(heaps, n, seed))
                marks, word = pack.whole()
                self.assertEqual(riffled(first(n), marks, word), pack.order())
                self.assertEqual(way(pack.order(), marks, number_of(pack.order(), marks, word)), word)
                # Parted from behind, the one riffle tells all that were done.
                told = []
                ahead = [done[0] for done in pack.done()]
                while len(ahead) > 1:
                    last = ahead.pop()
                    rest = ahead[0]
                    for others in ahead[1:]:
                        rest = joined_marks(rest, others)
                    word, more = parted(rest, last, word)
                    told.insert(0, (last, more))
                self.assertEqual([(ahead[0], word)] + told, pack.done())


def is_stretch(cards):
    return max(cards) - min(cards) == len(cards) - 1


def breaks_stretch(order):
    lengths = [length for length in range(1, len(order) + 1) if not is_stretch(order[:length])]
    return lengths[0] if lengths else None


def breaks_ends(order):
    for place, card in enumerate(order):
        if card not in [min(order[place:]), max(order[place:])]:
            return place + 1
    return None


class TurnedTest(unittest.TestCase):
    def orders(self):
        for n in range(1, 8):
            yield from all_orders(n)[:: 1 if n < 7 else 5]
        for n in [20, 60]:
            yield from large_orders(n)
            for seed in range(5):
                yield riffled(first(n), [False, True], mixed_word(2, n, seed))
                yield riffled(first(n), [True, False], mixed_word(2, n, seed))

    def cuts(self, order, marks):
        ways = [way(order, marks, number) for number in range(how_many(order, marks))]
        return [word.count(0) for word in ways]

    def test_second_turned(self):
        for order in self.orders():
            cuts = self.cuts(order, [False, True])
            self.assertEqual(bool(cuts), breaks_ends(order) is None, order)
            self.assertEqual(by_second(order), (True, min(cuts)) if cuts else (False, breaks_ends(order)), order)

    def test_three_tellings_of_the_first_turned(self):
        for order in self.orders():
            cuts = self.cuts(order, [True, False])
            self.assertEqual(bool(cuts), breaks_stretch(order) is None, order)
            self.assertEqual(bool(cuts), rests(order) is None, order)
            self.assertEqual(by_first(order), (True, min(cuts)) if cuts else (False, breaks_stretch(order)), order)


def carries_added(m, b, carry):
    """All columns of m figures with so much carried in, each added behind a column that carries it on."""
    row = [0] * m
    # So many times b - 1, and so much more, come to just so many times b.
    ahead = [b - 1] * carry + [0] * (m - carry)
    if carry:
        ahead[-1] = carry
    for figures in all_words(b, m):
        carried_on = added([list(pair) for pair in zip(ahead, figures)], b)[1]
        row[carried_on[1]] += 1
    return row


class TablesTest(unittest.TestCase):
    def test_falls_follow_on_falls_as_carries_on_carries(self):
        for m, most in [(1, 9), (2, 7), (3, 5), (4, 3), (5, 2)]:
            for b in range(1, most + 1):
                table = carries(m, b)
                self.assertEqual(falls_table(m, b), table)
                for order in all_orders(m):
                    self.assertEqual(falls_from(order, b), table[falls(order)], (order, b))

    def test_carries_as_columns_are_added(self):
        for m, b in [(1, 2), (1, 5), (2, 2), (2, 4), (3, 3), (3, 5), (4, 4), (5, 5)]:
            table = carries(m, b)
            for carry in range(m):
                self.assertEqual(carries_added(m, b, carry), table[carry], (m, b, carry))

    def test_all_numbers_of_some_columns(self):
        for m, b, columns in [(1, 3, 3), (2, 2, 3), (2, 3, 2), (3, 2, 2), (4, 2, 2)]:
            numbers = [list(figures) for figures in choices(range(b), repeat=columns)]
            counts = Counter(added(list(chosen), b)[1][-1] for chosen in choices(numbers, repeat=m))
            self.assertEqual(carried(m, b, columns), [counts[j] for j in range(m)])
            self.assertEqual(carried(m, b, columns), falls_table(m, b ** columns)[0])

    def test_falls_behind_riffles_as_carries_out_of_columns(self):
        # From the first order, each riffle in b heaps is as one column more.
        for m, b, k in [(2, 2, 3), (3, 2, 2), (3, 3, 2), (4, 2, 2)]:
            counts = [0] * m
            marks = [False] * b
            for words in choices(all_words(b, m), repeat=k):
                order = first(m)
                for word in words:
                    order = riffled(order, marks, word)
                counts[falls(order)] += 1
            self.assertEqual(carried(m, b, k), counts)

    def test_table_of_the_product_either_way(self):
        for m in range(1, 13):
            for a, b in [(1, 7), (2, 3), (10, 12), (60, 400), (10 ** 6, 10 ** 6)]:
                self.assertEqual(product(carries(m, a), falls_table(m, b)), falls_table(m, a * b))
                self.assertEqual(product(falls_table(m, b), carries(m, a)), carries(m, a * b))

    def test_row_of_falls_is_kept(self):
        for m in range(1, 13):
            for b in [1, 2, 3, 10, 60, 400, 10 ** 12]:
                kept = [count * b ** m for count in by_falls(m)]
                self.assertEqual(multiplied(by_falls(m), carries(m, b)), kept)
                self.assertEqual(multiplied(by_falls(m), falls_table(m, b)), kept)

    def test_shares_of_each_list_come_to_one(self):
        for m in range(1, 13):
            for b in [1, 2, 10, 10 ** 12]:
                for row in shares(falls_table(m, b), b ** m):
                    self.assertEqual(sum(Fraction(*share) for share in row), 1)

    def test_row_of_falls_counted(self):
        for m in range(1, 7):
            counts = Counter(falls(order) for order in all_orders(m))
            self.assertEqual(by_falls(m), [counts[j] for j in range(m)])
            self.assertEqual(Counter(runs(places(order)) - 1 for order in all_orders(m)), counts)


class FarTest(unittest.TestCase):
    def test_as_listing_all_orders_tells(self):
        for n in range(1, 6):
            for b, k in [(1, 0), (1, 4), (2, 0), (2, 1), (2, 3), (3, 2), (7, 1), (20, 1), (20, 2)]:
                heaps = b ** k
                if heaps > 400:
                    continue
                chances = [Fraction(how_many(order, [False] * heaps), heaps ** n) for order in all_orders(n)]
                self.assertEqual(sum(chances), 1)
                listed = sum(abs(part - Fraction(1, factorial(n))) for part in chances) / 2
                self.assertEqual(Fraction(*far(n, b, k)), listed, (n, b, k))

    def test_as_packs_riffled_over_and_over(self):
        for n, b, k in [(2, 2, 4), (3, 2, 2), (3, 2, 3), (3, 3, 2), (4, 2, 2)]:
            counts = Counter()
            for words in choices(all_words(b, n), repeat=k):
                pack = Pack(n)
                for word in words:
                    pack.riffle([False] * b, word)
                counts[tuple(pack.order())] += 1
            even = Fraction(1, factorial(n))
            listed = sum(abs(Fraction(counts[tuple(order)], b ** (n * k)) - even) for order in all_orders(n)) / 2
            self.assertEqual(Fraction(*far(n, b, k)), listed, (n, b, k))


class DeskTest(unittest.TestCase):
    def test_ways_riffled_at_another_desk(self):
        one = Desk()
        other = Desk()
        for n in [1, 4, 60]:
            one.say(f"pack {n}")
            for heaps in [2, 3, 5]:
                marks = show_marks(mixed_marks(heaps))
                one.say(f"riffle {marks} " + " ".join(str(part) for part in mixed_word(heaps, n)))
            marks = one.say("whole").split(" ")[0]
            ways = int(one.say(f"ways {marks}"))
            for number in range(min(ways, 50)):
                word = one.say(f"way {marks} {number}")
                other.say(f"pack {n}")
                self.assertEqual(other.say(f"riffle {marks} {word}"), one.say("order"))
                self.assertEqual(other.say("whole"), f"{marks} {word}")


if __name__ == "__main__":
    unittest.main()

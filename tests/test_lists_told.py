"""Nothing handed in is changed or kept, and every list told is a new one."""

import unittest
from copy import deepcopy

from riftcarry.choosing import by_falls, choose
from riftcarry.columns import added, carried
from riftcarry.desk import Desk
from riftcarry.errors import RiftError
from riftcarry.even import chance, far
from riftcarry.fractions import fraction, shares
from riftcarry.joining import joined, joined_marks, parted
from riftcarry.listing import falls_from
from riftcarry.orders import falls, first, is_order, laid, places, runs
from riftcarry.packs import Pack
from riftcarry.riffles import is_word, riffled, sizes, undone
from riftcarry.tables import carries, falls_table, multiplied, product
from riftcarry.texts import read_marks, read_number, show_marks
from riftcarry.turned import by_first, by_second, rests
from riftcarry.ways import how_many, number_of, plain, way
from riftcarry.wholes import is_whole
from tests.samples import large_orders, mixed, mixed_marks, mixed_word


class HandedInTest(unittest.TestCase):
    def test_orders_stay_as_they_were(self):
        for ask in [is_order, places, falls, runs, is_whole]:
            for n in [1, 2, 5, 60]:
                for order in large_orders(n):
                    before = list(order)
                    ask(order)
                    self.assertEqual(order, before, ask.__name__)

    def test_what_is_no_order_stays_as_it_was(self):
        for cards in [[], [1], [2, 0, 2], [1, True, 0], [None, 0], ["1", 0], list(range(61, 0, -1))]:
            before = repr(cards)
            self.assertIs(is_order(cards), False)
            self.assertEqual(repr(cards), before)

    def test_laid_leaves_both_as_they_were(self):
        for one in large_orders(60):
            for other in large_orders(60):
                before = (list(one), list(other))
                laid(one, other)
                self.assertEqual((one, other), before)

    def test_one_list_handed_in_twice(self):
        order = [1, 2, 0]
        self.assertEqual(laid(order, order), [2, 0, 1])
        self.assertEqual(order, [1, 2, 0])

    def test_changed_later_changes_nothing_told(self):
        one = [2, 0, 1]
        other = [1, 2, 0]
        told_places = places(one)
        told_laid = laid(one, other)
        one[0] = 7
        other.clear()
        self.assertEqual(told_places, [1, 2, 0])
        self.assertEqual(told_laid, [0, 1, 2])

    def test_changed_later_is_asked_anew(self):
        order = [2, 0, 1]
        self.assertEqual([is_order(order), falls(order), runs(order), places(order)], [True, 1, 2, [1, 2, 0]])
        order.reverse()
        self.assertEqual([is_order(order), falls(order), runs(order), places(order)], [True, 1, 2, [1, 0, 2]])
        order.append(0)
        self.assertIs(is_order(order), False)


class ToldTest(unittest.TestCase):
    def check(self, ask, handed_in):
        told = ask()
        before = list(told)
        for thing in handed_in:
            self.assertIsNot(told, thing)
        again = ask()
        self.assertIsNot(again, told)
        again.reverse()
        again.append("changed")
        self.assertEqual(told, before)
        told.clear()
        self.assertEqual(ask(), before)

    def test_first(self):
        for n in [1, 2, 60]:
            self.check(lambda: first(n), [])

    def test_places(self):
        for order in [[0], [0, 1], [2, 0, 1], list(range(60))]:
            self.check(lambda: places(order), [order])

    def test_laid(self):
        for order in [[0], [1, 0], [2, 0, 1], list(range(59, -1, -1))]:
            upward = list(range(len(order)))
            self.check(lambda: laid(order, upward), [order, upward])
            self.check(lambda: laid(upward, order), [order, upward])

    def test_by_falls(self):
        for n in [1, 2, 3, 60]:
            self.check(lambda: by_falls(n), [])

    def test_by_falls_of_more_and_fewer_cards_later(self):
        told = by_falls(4)
        by_falls(3).clear()
        by_falls(5).clear()
        self.assertEqual(told, [1, 11, 11, 1])
        told.clear()
        self.assertEqual(by_falls(3), [1, 4, 1])
        self.assertEqual(by_falls(5), [1, 26, 66, 26, 1])


def lists_in(thing):
    """All lists in a thing, those within lists and tuples too."""
    if not isinstance(thing, (list, tuple)):
        return []
    found = [thing] if isinstance(thing, list) else []
    for part in thing:
        found.extend(lists_in(part))
    return found


def asked_of_riffles():
    """Each function with what may be handed in, all of it right."""
    asked = []
    for n, a, b in [(1, 1, 1), (1, 2, 2), (3, 1, 1), (3, 2, 3), (60, 1, 1), (60, 20, 20)]:
        order = mixed(n)
        marks = mixed_marks(a)
        others = mixed_marks(b, 2)
        word = mixed_word(a, n)
        more = mixed_word(b, n, 2)
        come = riffled(first(n), marks, word)
        both = joined(marks, word, others, more)
        asked.extend([
            (is_word, [marks, word, n]), (sizes, [marks, word]), (riffled, [order, marks, word]),
            (undone, [order, marks, word]), (how_many, [come, marks]), (way, [come, marks, 0]),
            (number_of, [come, marks, word]), (plain, [order, a]), (joined_marks, [marks, others]),
            (joined, [marks, word, others, more]), (parted, [marks, others, both]),
        ])
    return asked


def asked_of_turned_heaps():
    return [(ask, [order]) for ask in [by_second, by_first, rests] for n in [1, 2, 5, 60] for order in large_orders(n)]


def asked_of_tables():
    asked = [(fraction, [6, -4])]
    for m in [1, 2, 3, 12]:
        # The table of one heap, and a row that picks one list, are where a list handed in could be told as it is.
        for b in [1, 2, 10 ** 12]:
            one = carries(m, b)
            other = carries(m, 1)
            asked.extend([
                (carries, [m, b]), (falls_table, [m, b]), (product, [one, other]), (product, [other, one]),
                (multiplied, [by_falls(m), one]), (multiplied, [by_falls(m), other]), (multiplied, [one[0], other]),
                (multiplied, [[1] + [0] * (m - 1), one]), (shares, [one, 1]), (shares, [one, b]),
            ])
    for m, b in [(1, 1), (1, 4096), (3, 2), (6, 1), (6, 4)]:
        asked.extend([(falls_from, [order, b]) for order in large_orders(m)])
    return asked


def asked_of_columns():
    asked = []
    for count in [1, 2, 60]:
        for columns in [0, 1, 3, 60]:
            # Of one number, and of noughts beside it, the sum has just the figures that were handed in.
            number = mixed_word(7, columns, count)
            noughts = [[0] * columns for place in range(count - 1)]
            asked.extend([(added, [[number] + noughts, 7]), (added, [noughts + [number], 10 ** 30]),
                          (added, [[number] * count, 10]), (added, [[[1] * columns for place in range(count)], 2])])
    for m in [1, 2, 12]:
        # Where there are no columns, or m is 1, a row that is kept somewhere could be told as it is.
        asked.extend([(carried, [m, b, columns]) for b in [2, 60] for columns in [0, 1, 2, 20]])
    return asked


def asked_of_orders():
    asked = [(choose, [5, 2]), (first, [1]), (first, [60]), (by_falls, [1]), (by_falls, [60])]
    for n in [1, 2, 5, 60]:
        for order in large_orders(n):
            asked.extend([(is_whole, [order]), (is_order, [order]), (places, [order]), (falls, [order]),
                          (runs, [order]), (laid, [order, first(n)]), (laid, [first(n), order])])
    return asked


def asked_of_the_rest():
    asked = [(chance, [3, 2, 1]), (far, [1, 2, 3]), (far, [20, 60, 20]), (read_number, ["7"])]
    for heaps in [1, 2, 400]:
        marks = mixed_marks(heaps)
        asked.extend([(show_marks, [marks]), (read_marks, [show_marks(marks)])])
    return asked


def asked_of_all():
    return (asked_of_orders() + asked_of_riffles() + asked_of_turned_heaps() + asked_of_tables() + asked_of_columns()
            + asked_of_the_rest())


REFUSED = [
    (sizes, [[False], [0, 1]]), (riffled, [[1, 0], [False], [0, 1]]), (undone, [[1, 0], [True], [0]]),
    (way, [[1, 0], [False], 0]), (number_of, [[1, 0], [False], [0, 0]]), (number_of, [[1, 0], [False], [0, None]]),
    (joined, [[False], [0, 0], [True], [0]]), (joined, [[False], [0, "0"], [True], [0, 0]]),
    (parted, [[False], [True, False], [0, 2]]), (falls_from, [[2, 0, 1, 3], 9]), (falls_from, [[0], 10 ** 12]),
    (added, [[], 10]), (added, [[[1, 2], [3]], 10]), (added, [[[], [3]], 10]), (added, [[[1, 2], [3, 10]], 10]),
    (added, [[[1, True]], 10]), (added, [[[None], ["1"]], 10]), (added, [[[-1, 0], [0, 0]], 2]),
]


class AskedTest(unittest.TestCase):
    def test_handed_in_stays_as_it_was(self):
        for ask, handed_in in asked_of_all():
            before = repr(handed_in)
            ask(*handed_in)
            self.assertEqual(repr(handed_in), before, ask.__name__)

    def test_refused_stays_as_it_was(self):
        for ask, handed_in in REFUSED:
            before = repr(handed_in)
            with self.assertRaises(RiftError):
                ask(*handed_in)
            self.assertEqual(repr(handed_in), before, ask.__name__)

    def test_told_lists_are_new(self):
        for ask, handed_in in asked_of_all():
            told = lists_in(ask(*handed_in)) + lists_in(ask(*handed_in))
            self.assertEqual(len({id(part) for part in told}), len(told), ask.__name__)
            for part in lists_in(handed_in):
                self.assertNotIn(id(part), [id(other) for other in told], ask.__name__)

    def test_changed_lists_change_nothing(self):
        for ask, handed_in in asked_of_all():
            own = deepcopy(handed_in)
            told = ask(*own)
            before = deepcopy(told)
            for part in lists_in(own):
                part.clear()
            self.assertEqual(told, before, ask.__name__)
            for part in lists_in(told):
                part.append("changed")
            self.assertEqual(ask(*handed_in), before, ask.__name__)

    def test_one_list_handed_in_twice(self):
        marks = [False, True]
        word = [1, 0]
        self.assertEqual(riffled(word, marks, word), [0, 1])
        self.assertEqual(undone(word, marks, word), [0, 1])
        self.assertEqual(joined_marks(marks, marks), [False, True, False, True])
        self.assertEqual(joined(marks, word, marks, word), [1, 3])
        self.assertEqual(parted(marks, marks, word), ([0, 0], [1, 0]))
        self.assertEqual((marks, word), ([False, True], [1, 0]))

    def test_one_table_handed_in_twice(self):
        table = [[1, 2], [3, 4]]
        self.assertEqual(product(table, table), [[7, 10], [15, 22]])
        self.assertEqual(multiplied(table[1], table), [15, 22])
        self.assertEqual(table, [[1, 2], [3, 4]])

    def test_one_list_twice_within_a_table(self):
        row = [1, 2]
        for told in [product([row, row], [row, row]), shares([row, row], 2)]:
            self.assertIsNot(told[0], told[1])
            self.assertEqual(told[0], told[1])
        self.assertEqual(row, [1, 2])


    def test_one_number_several_times(self):
        number = [9, 4]
        numbers = [number, number, number]
        figures, carried_on = added(numbers, 10)
        self.assertEqual((figures, carried_on), ([7, 4], [2, 1]))
        figures.clear()
        self.assertEqual((number, carried_on), ([9, 4], [2, 1]))
        number[0] = 0
        self.assertEqual(carried_on, [2, 1])
        self.assertEqual(added(numbers, 10), ([0, 2], [0, 1]))
        self.assertEqual(len(numbers), 3)

    def test_rows_of_no_columns_are_told_anew(self):
        told = carried(3, 2, 0)
        told[0] = 7
        self.assertEqual(carried(3, 2, 0), [1, 0, 0])
        self.assertEqual(carried(3, 2, 1), [4, 4, 0])

    def test_desks_keep_nothing_of_the_modules_lists(self):
        desk = Desk()
        desk.say("pack 3")
        desk.say("riffle pt 1 0 1")
        for ask, handed_in in asked_of_all():
            for part in lists_in(ask(*deepcopy(handed_in))):
                part.clear()
        self.assertEqual([desk.say("order"), desk.say("whole"), desk.say("undo")], ["2 0 1", "pt 1 0 1", "0 1 2"])


class PackTest(unittest.TestCase):
    def told(self, pack):
        return (pack.order(), pack.done(), pack.whole())

    def riffled_pack(self):
        pack = Pack(3)
        pack.riffle([False, True], [1, 0, 1])
        pack.riffle([True, False], [0, 1, 0])
        return pack

    def test_handed_in_stays_as_it_was(self):
        for n, heaps in [(1, 1), (3, 2), (60, 400)]:
            marks = mixed_marks(heaps)
            word = mixed_word(heaps, n)
            before = (list(marks), list(word))
            pack = Pack(n)
            pack.riffle(marks, word)
            self.told(pack)
            pack.undo()
            self.assertEqual((marks, word), before)

    def test_refused_stays_as_it_was(self):
        pack = Pack(2)
        for marks, word in [([0, 1], [0, 1]), ([False], [0, 1]), ([True, False], [0, True]), ([], [])]:
            before = repr((marks, word))
            with self.assertRaises(RiftError):
                pack.riffle(marks, word)
            self.assertEqual(repr((marks, word)), before)

    def test_handed_in_is_not_kept(self):
        marks = [False, True]
        word = [1, 0, 1]
        pack = Pack(3)
        pack.riffle(marks, word)
        before = self.told(pack)
        marks[0] = True
        marks.append(False)
        word.clear()
        self.assertEqual(self.told(pack), before)
        self.assertEqual(pack.undo(), [0, 1, 2])

    def test_told_is_not_kept(self):
        tells = [Pack.order, Pack.done, Pack.whole, Pack.undo, lambda pack: pack.riffle([True], [0, 0, 0])]
        for tell in tells:
            pack = self.riffled_pack()
            told = tell(pack)
            before = self.told(pack)
            for part in lists_in(told):
                part.clear()
            self.assertEqual(self.told(pack), before)

    def test_told_of_a_new_pack_is_not_kept(self):
        for tell in [Pack.order, Pack.done, Pack.whole]:
            pack = Pack(3)
            for part in lists_in(tell(pack)):
                part.append("changed")
            self.assertEqual(self.told(pack), ([0, 1, 2], [], ([False], [0, 0, 0])))
            self.assertEqual(self.told(Pack(3)), ([0, 1, 2], [], ([False], [0, 0, 0])))

    def test_told_lists_are_new(self):
        for pack in [Pack(1), Pack(3), self.riffled_pack()]:
            told = lists_in(self.told(pack)) + lists_in(self.told(pack))
            self.assertEqual(len({id(part) for part in told}), len(told))

    def test_one_list_riffled_by_twice(self):
        marks = [True, False]
        word = [0, 1, 0]
        pack = Pack(3)
        pack.riffle(marks, word)
        pack.riffle(marks, word)
        pack.done()[0][0].clear()
        told = lists_in(pack.done())
        self.assertEqual(len({id(part) for part in told}), 5)
        self.assertEqual(pack.done(), [(marks, word), (marks, word)])

    def test_done_and_asked_later_changes_nothing_told(self):
        pack = Pack(3)
        steps = [pack.order(), pack.done(), pack.whole(), pack.riffle([False, True], [1, 0, 1]), pack.order(),
                 pack.done(), pack.whole()]
        before = deepcopy(steps)
        pack.riffle([True], [0, 0, 0])
        self.told(pack)
        pack.undo()
        pack.undo()
        pack.riffle([False], [0, 0, 0])
        self.assertEqual(steps, before)


if __name__ == "__main__":
    unittest.main()

import unittest

from riftcarry.errors import NoMarks, NoPack, NoRiffle, TooMany
from riftcarry.joining import joined, joined_marks
from riftcarry.packs import Pack
from tests.samples import mixed_marks, mixed_word, riffled_by_hand, sample_marks, sample_words, wrong_words

WRONG_MARKS = [
    [], [0], [1], [0, 1], [False, 0], [1, True], [True, False, 1], [None], [False, None], ["p"], [True, "t"], [""],
    [2], [-1], [10 ** 299], [False] * 401, [True] * 401, [False] * 500, [True] * 399 + [1], [0] * 400, [0] * 401,
    [None] * 500,
]


def told_by(pack):
    try:
        whole = pack.whole()
    except TooMany:
        whole = TooMany
    return (pack.order(), pack.done(), whole)


class NewPackTest(unittest.TestCase):
    def test_each_number_of_cards(self):
        for n in range(1, 61):
            pack = Pack(n)
            self.assertEqual(pack.order(), list(range(n)))
            self.assertEqual(pack.done(), [])
            self.assertEqual(pack.whole(), ([False], [0] * n))

    def test_no_number_of_cards(self):
        things = [0, 61, 62, 100, -1, -2, -60, 10 ** 299, -10 ** 299, True, False, None, "", "1", "60", "one"]
        things += [[], [1], [0, 1], (), (1,), (0, 1), [[1]], [None]]
        for thing in things:
            with self.subTest(thing=thing):
                with self.assertRaises(NoPack):
                    Pack(thing)


class RiffleTest(unittest.TestCase):
    def test_in_turn(self):
        pack = Pack(4)
        self.assertEqual(pack.riffle([False, True], [1, 0, 1, 0]), [3, 0, 2, 1])
        self.assertEqual(pack.order(), [3, 0, 2, 1])
        self.assertEqual(pack.done(), [([False, True], [1, 0, 1, 0])])
        self.assertEqual(pack.whole(), ([False, True], [1, 0, 1, 0]))
        self.assertEqual(pack.riffle([True, False], [0, 0, 1, 1]), [0, 3, 2, 1])
        self.assertEqual(pack.order(), [0, 3, 2, 1])
        self.assertEqual(pack.done(), [([False, True], [1, 0, 1, 0]), ([True, False], [0, 0, 1, 1])])
        self.assertEqual(pack.whole(), ([True, False, True, False], [0, 3, 2, 1]))
        self.assertEqual(pack.undo(), [3, 0, 2, 1])
        self.assertEqual(pack.order(), [3, 0, 2, 1])
        self.assertEqual(pack.done(), [([False, True], [1, 0, 1, 0])])
        self.assertEqual(pack.whole(), ([False, True], [1, 0, 1, 0]))
        self.assertEqual(pack.riffle([True], [0, 0, 0, 0]), [1, 2, 0, 3])
        self.assertEqual(pack.done(), [([False, True], [1, 0, 1, 0]), ([True], [0, 0, 0, 0])])
        self.assertEqual(pack.undo(), [3, 0, 2, 1])
        self.assertEqual(pack.undo(), [0, 1, 2, 3])
        self.assertEqual(pack.done(), [])
        self.assertEqual(pack.whole(), ([False], [0, 0, 0, 0]))

    def test_kinds(self):
        pack = Pack(3)
        pack.riffle([False, True], [1, 0, 1])
        self.assertIs(pack.order().__class__, list)
        self.assertIs(pack.done().__class__, list)
        for riffle in [pack.done()[0], pack.whole()]:
            self.assertIs(riffle.__class__, tuple)
            self.assertEqual([part.__class__ for part in riffle], [list, list])
            self.assertEqual({mark.__class__ for mark in riffle[0]}, {bool})

    def test_many_riffles_done_and_undone(self):
        for n in [1, 2, 7, 60]:
            pack = Pack(n)
            orders = [list(range(n))]
            riffles = []
            for heaps in [1, 2, 3, 60, 400]:
                for marks in sample_marks(heaps):
                    for word in sample_words(heaps, n):
                        orders.append(riffled_by_hand(orders[-1], marks, word))
                        riffles.append((marks, word))
                        self.assertEqual(pack.riffle(marks, word), orders[-1])
                        self.assertEqual(pack.order(), orders[-1])
            self.assertEqual(pack.done(), riffles)
            while riffles:
                riffles.pop()
                orders.pop()
                self.assertEqual(pack.undo(), orders[-1])
                self.assertEqual(pack.order(), orders[-1])
            self.assertEqual(pack.done(), [])
            self.assertEqual(pack.order(), list(range(n)))

    def test_two_packs(self):
        one = Pack(3)
        other = Pack(3)
        one.riffle([True], [0, 0, 0])
        self.assertEqual(told_by(other), ([0, 1, 2], [], ([False], [0, 0, 0])))
        self.assertEqual(one.order(), [2, 1, 0])


class WholeTest(unittest.TestCase):
    def check(self, pack):
        marks, word = pack.whole()
        self.assertEqual(riffled_by_hand(list(range(len(word))), marks, word), pack.order())

    def test_one_riffle_is_the_whole(self):
        for n in [1, 2, 60]:
            for heaps in [1, 2, 3, 400]:
                for marks in sample_marks(heaps):
                    for word in sample_words(heaps, n):
                        pack = Pack(n)
                        pack.riffle(marks, word)
                        self.assertEqual(pack.whole(), (marks, word))

    def test_each_joined_behind_those_ahead(self):
        for n in [1, 2, 5, 60]:
            for seed in range(20):
                pack = Pack(n)
                marks = [False]
                word = [0] * n
                for heaps in [2, 3, 1, 5, 4, 3]:
                    others = mixed_marks(heaps, seed + heaps)
                    more = mixed_word(heaps, n, seed)
                    word = joined(marks, word, others, more)
                    marks = joined_marks(marks, others)
                    pack.riffle(others, more)
                    self.assertEqual(pack.whole(), (marks, word))
                    self.check(pack)

    def test_just_four_hundred_heaps(self):
        for counts in [[400], [20, 20], [1, 400], [400, 1, 1], [2, 2, 2, 2, 5, 5], [4, 100], [100, 4]]:
            pack = Pack(60)
            for heaps in counts:
                pack.riffle(mixed_marks(heaps), mixed_word(heaps, 60))
            self.assertEqual(len(pack.whole()[0]), 400)
            self.check(pack)

    def test_more_than_four_hundred_heaps(self):
        for counts in [[134, 3], [2, 201], [201, 2], [21, 20], [20, 21], [400, 2], [2, 400], [400, 400],
                       [20, 20, 2], [2] * 9, [2, 20, 1, 20, 1], [400] * 50]:
            pack = Pack(7)
            for heaps in counts:
                pack.riffle(mixed_marks(heaps), mixed_word(heaps, 7))
            before = (pack.order(), pack.done())
            for again in range(2):
                with self.assertRaises(TooMany):
                    pack.whole()
                self.assertEqual((pack.order(), pack.done()), before)

    def test_told_again_when_undone(self):
        pack = Pack(5)
        pack.riffle(mixed_marks(20), mixed_word(20, 5))
        pack.riffle(mixed_marks(20), mixed_word(20, 5, 2))
        whole = pack.whole()
        pack.riffle([False, True], [0, 1, 0, 1, 0])
        with self.assertRaises(TooMany):
            pack.whole()
        pack.undo()
        self.assertEqual(pack.whole(), whole)

    def test_many_riffles_of_one_heap(self):
        pack = Pack(60)
        for turn in range(301):
            pack.riffle([True], [0] * 60)
        self.assertEqual(pack.whole(), ([True], [0] * 60))
        pack.undo()
        self.assertEqual(pack.whole(), ([False], [0] * 60))


class RefusedTest(unittest.TestCase):
    def packs(self, n):
        fresh = Pack(n)
        used = Pack(n)
        used.riffle([False, True], mixed_word(2, n))
        used.riffle([True, True, False], mixed_word(3, n))
        many = Pack(n)
        many.riffle([True] * 400, mixed_word(400, n))
        many.riffle([True, False], mixed_word(2, n))
        return [fresh, used, many]

    def refuse(self, pack, refusal, marks, word):
        before = told_by(pack)
        with self.assertRaises(refusal) as taken:
            pack.riffle(marks, word)
        self.assertIs(taken.exception.__class__, refusal)
        self.assertEqual(told_by(pack), before)

    def test_marks_that_are_none(self):
        for n in [1, 3, 60]:
            for pack in self.packs(n):
                for marks in WRONG_MARKS:
                    self.refuse(pack, NoMarks, marks, [0] * n)

    def test_marks_that_are_none_with_a_word_that_is_none(self):
        for pack in self.packs(3):
            for marks in WRONG_MARKS:
                for word in [[], [0], [0] * 4, [0, 0, 500], [-1, 0, 0], [None, 0, 0], [True, 0, 0], ["0", 0, 0]]:
                    self.refuse(pack, NoMarks, marks, word)

    def test_words_that_are_none(self):
        for n in [1, 2, 3, 60]:
            for pack in self.packs(n):
                for heaps in [1, 2, 400]:
                    for word in wrong_words(heaps, n):
                        self.refuse(pack, NoRiffle, mixed_marks(heaps), word)

    def test_undoing_with_nothing_left(self):
        for n in [1, 2, 60]:
            pack = Pack(n)
            for again in range(3):
                with self.assertRaises(NoRiffle):
                    pack.undo()
                self.assertEqual(told_by(pack), (list(range(n)), [], ([False], [0] * n)))
            pack.riffle([True], [0] * n)
            pack.undo()
            with self.assertRaises(NoRiffle):
                pack.undo()
            self.assertEqual(told_by(pack), (list(range(n)), [], ([False], [0] * n)))
            self.assertEqual(pack.riffle([True], [0] * n), list(range(n))[::-1])

    def test_undone_behind_a_refusal(self):
        pack = Pack(3)
        pack.riffle([True], [0, 0, 0])
        self.refuse(pack, NoRiffle, [True, False], [0, 1, 2])
        self.refuse(pack, NoMarks, [0, 1], [0, 1, 1])
        self.assertEqual(pack.undo(), [0, 1, 2])
        self.assertEqual(pack.done(), [])


if __name__ == "__main__":
    unittest.main()

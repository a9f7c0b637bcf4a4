import unittest

from riftcarry.errors import NoText
from riftcarry.texts import read_marks, read_number, show_marks
from tests.samples import BAD_MARKS, BAD_NUMBERS, all_marks, check_refused, mixed_marks, sample_marks


class ReadNumberTest(unittest.TestCase):
    def test_small_numbers(self):
        for number in range(2000):
            told = read_number(str(number))
            self.assertIs(told.__class__, int)
            self.assertEqual(told, number)

    def test_examples(self):
        self.assertEqual(read_number("0"), 0)
        self.assertEqual(read_number("7"), 7)
        self.assertEqual(read_number("10"), 10)
        self.assertEqual(read_number("100"), 100)
        self.assertEqual(read_number("1234567890"), 1234567890)
        self.assertEqual(read_number("100000000000"), 10 ** 11)
        self.assertEqual(read_number("999999999999"), 10 ** 12 - 1)

    def test_each_count_of_figures(self):
        for figures in range(1, 13):
            for first in "123456789":
                for other in "0123456789":
                    written = first + other * (figures - 1)
                    self.assertEqual(read_number(written), int(written))

    def test_badly_written(self):
        for word in BAD_NUMBERS:
            check_refused(self, NoText, read_number, word)

    def test_one_sign_that_is_no_figure(self):
        for sign in [chr(code) for code in range(32, 127)]:
            if sign not in "0123456789":
                for word in [sign, sign + "1", "1" + sign, "1" + sign + "1", sign + "0", "0" + sign]:
                    check_refused(self, NoText, read_number, word)

    def test_figures_of_other_scripts(self):
        for word in ["\u0661", "1\u0662", "\u00b2", "1\u00b3", "\uff11", "\u2155", "\u4e00", "\n", "1\n", "\t1"]:
            check_refused(self, NoText, read_number, word)


class ReadMarksTest(unittest.TestCase):
    def test_examples(self):
        self.assertEqual(read_marks("p"), [False])
        self.assertEqual(read_marks("t"), [True])
        self.assertEqual(read_marks("pt"), [False, True])
        self.assertEqual(read_marks("ttp"), [True, True, False])

    def test_kinds(self):
        told = read_marks("tp")
        self.assertIs(told.__class__, list)
        self.assertEqual([mark.__class__ for mark in told], [bool, bool])

    def test_up_to_four_hundred(self):
        for heaps in [1, 2, 3, 60, 399, 400]:
            self.assertEqual(read_marks("p" * heaps), [False] * heaps)
            self.assertEqual(read_marks("t" * heaps), [True] * heaps)
            self.assertEqual(read_marks("p" * (heaps - 1) + "t"), [False] * (heaps - 1) + [True])

    def test_badly_written(self):
        for word in BAD_MARKS:
            check_refused(self, NoText, read_marks, word)

    def test_one_sign_that_is_no_mark(self):
        for sign in [chr(code) for code in range(32, 127)]:
            if sign not in "pt":
                for word in [sign, sign + "p", "t" + sign, "p" + sign + "t", "p" * 399 + sign]:
                    check_refused(self, NoText, read_marks, word)

    def test_other_scripts(self):
        for word in ["\u0440", "p\u0442", "\uff50", "\n", "p\n", "\tt"]:
            check_refused(self, NoText, read_marks, word)


class ShowMarksTest(unittest.TestCase):
    def test_examples(self):
        self.assertEqual(show_marks([False]), "p")
        self.assertEqual(show_marks([True]), "t")
        self.assertEqual(show_marks([False, True]), "pt")
        self.assertEqual(show_marks([True, True, False]), "ttp")

    def test_shown_is_read_again(self):
        for heaps in range(1, 9):
            for marks in all_marks(heaps):
                self.assertEqual(read_marks(show_marks(marks)), marks)
        for heaps in [60, 399, 400]:
            for marks in [*sample_marks(heaps), mixed_marks(heaps, 7)]:
                told = show_marks(marks)
                self.assertIs(told.__class__, str)
                self.assertEqual(len(told), heaps)
                self.assertEqual(read_marks(told), marks)

    def test_one_sign_for_each_heap(self):
        for heaps in [1, 2, 400]:
            for marks in sample_marks(heaps):
                self.assertEqual(list(show_marks(marks)), ["t" if mark is True else "p" for mark in marks])


if __name__ == "__main__":
    unittest.main()

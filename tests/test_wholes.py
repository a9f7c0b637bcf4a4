import unittest

from riftcarry.wholes import is_whole, power


class IsWholeTest(unittest.TestCase):
    def test_whole_numbers(self):
        for thing in [0, 1, -1, 2, 59, 60, 61, -60, 10 ** 30, -10 ** 30, 10 ** 300 - 1, 1 - 10 ** 300]:
            with self.subTest(thing=thing):
                self.assertIs(is_whole(thing), True)

    def test_truths(self):
        self.assertIs(is_whole(True), False)
        self.assertIs(is_whole(False), False)

    def test_none(self):
        self.assertIs(is_whole(None), False)

    def test_texts(self):
        for thing in ["", " ", "0", "7", "-1", "seven", "True"]:
            with self.subTest(thing=thing):
                self.assertIs(is_whole(thing), False)

    def test_lists_and_tuples(self):
        for thing in [[], [0], [1, 2], [[3]], [None], (), (0,), (1, 2), ((3,),), (True,)]:
            with self.subTest(thing=thing):
                self.assertIs(is_whole(thing), False)


class PowerTest(unittest.TestCase):
    def test_powers(self):
        for base in [0, 1, 2, 7, 60, 10 ** 12, -3]:
            for times in [0, 1, 2, 3, 20, 60]:
                self.assertEqual(power(base, times), base ** times)


if __name__ == "__main__":
    unittest.main()

import unittest

from riftcarry.errors import RiftError
from tests.samples import REFUSALS


class ErrorsTest(unittest.TestCase):
    def test_any_refusal_is_a_value_error(self):
        self.assertEqual(RiftError.__bases__, (ValueError,))

    def test_names(self):
        self.assertEqual(RiftError.__name__, "RiftError")
        names = ["NoPack", "NoMarks", "NoRiffle", "NoWay", "TooMany", "NoFigures", "NoText"]
        self.assertEqual([refusal.__name__ for refusal in REFUSALS], names)

    def test_each_stands_under_rift_error(self):
        for refusal in REFUSALS:
            with self.subTest(refusal=refusal.__name__):
                self.assertTrue(issubclass(refusal, RiftError))
                self.assertIsNot(refusal, RiftError)

    def test_none_stands_under_another(self):
        for one in range(len(REFUSALS)):
            for other in range(len(REFUSALS)):
                if one != other:
                    with self.subTest(one=REFUSALS[one].__name__, other=REFUSALS[other].__name__):
                        self.assertFalse(issubclass(REFUSALS[one], REFUSALS[other]))

    def test_each_is_raised_with_words_and_taken(self):
        for refusal in REFUSALS:
            with self.subTest(refusal=refusal.__name__):
                with self.assertRaises(RiftError) as taken:
                    raise refusal("some words")
                self.assertIs(taken.exception.__class__, refusal)
                self.assertEqual(str(taken.exception), "some words")


if __name__ == "__main__":
    unittest.main()

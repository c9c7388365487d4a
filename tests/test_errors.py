"""The error classes: what stands under what."""

import unittest

from oathhall.errors import HallError, NoBook, NoLine


class ErrorClasses(unittest.TestCase):
    def test_bases_are_as_told(self):
        self.assertEqual(HallError.__bases__, (ValueError,))
        self.assertEqual(NoLine.__bases__, (HallError,))
        self.assertEqual(NoBook.__bases__, (HallError,))

    def test_each_can_be_taken_as_any_refusal(self):
        for refusal in (NoLine, NoBook):
            for taken_as in (refusal, HallError, ValueError):
                with self.subTest(refusal=refusal, taken_as=taken_as):
                    with self.assertRaises(taken_as):
                        raise refusal("refused")

    def test_neither_is_taken_as_the_other(self):
        self.assertFalse(issubclass(NoLine, NoBook))
        self.assertFalse(issubclass(NoBook, NoLine))


if __name__ == "__main__":
    unittest.main()

"""The helpers that the document leaves to the program."""

import unittest

from owinghall.floors import floored, left_over, product, products
from tests.samples import BIG


class FloorsTest(unittest.TestCase):
    def test_products(self):
        self.assertEqual(product([], []), 0)
        self.assertEqual(product([1, 2, 3], [4, -5, 6]), 12)
        self.assertEqual(product([BIG], [BIG]), BIG * BIG)
        self.assertEqual(products([], []), [])
        self.assertEqual(products([[1, 2], [3, 4]], [5, -6]), [-7, -9])

    def test_quotients_are_rounded_down_and_what_is_left_is_never_below_nought(self):
        self.assertEqual(floored([7, -7, 6, 0, -1], 3), [2, -3, 2, 0, -1])
        self.assertEqual(left_over([7, -7, 6, 0, -1], 3), [1, 2, 0, 0, 2])
        self.assertEqual(floored([BIG, -BIG], 10), [10 ** 69 - 1, -10 ** 69])
        self.assertEqual(left_over([BIG, -BIG], 10), [9, 1])
        self.assertEqual(floored([], 2), [])
        self.assertEqual(left_over([], 2), [])


if __name__ == "__main__":
    unittest.main()

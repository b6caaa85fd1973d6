"""Rows of signs by themselves."""

import unittest

from makeups.rows import count_leaves, is_gathering


class Rows(unittest.TestCase):
    def test_gatherings(self):
        for row in ([], [1], [2, 3], [2, 5], [4, 3], [2, 4, 3, 5], [1] * 21, [2] * 10 + [1] + [3] * 10):
            self.assertTrue(is_gathering(row), row)

    def test_no_gatherings(self):
        for row in ([2], [3], [4, 5], [3, 2], [2, 2, 3], [2, 3, 3], [1] * 22, [0], [6], [2, 7, 3], [2147483647]):
            self.assertFalse(is_gathering(row), row)

    def test_leaves(self):
        self.assertEqual(count_leaves([]), 0)
        self.assertEqual(count_leaves([1, 2, 4, 3, 5]), 3)


if __name__ == "__main__":
    unittest.main()

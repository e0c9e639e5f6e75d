"""The examples of the document that use only what has landed."""

import unittest

from meansinprint.reports import Report
from meansinprint.sums import can_mean, sizes_for, square_range, sum_range


class ExamplesTest(unittest.TestCase):
    def test_sums(self):
        self.assertIsNone(sum_range(Report(1, 5, 10, "3.47")))
        self.assertEqual(sum_range(Report(1, 5, 10, "3.40")), (34, 34))
        self.assertIs(can_mean(Report(1, 5, 10, "3.47")), False)
        self.assertEqual(sizes_for(Report(1, 5, 1, "3.47"), 20), [15, 17, 19])
        self.assertEqual(square_range(Report(1, 5, 3, "3"), 9), (27, 35))
        self.assertEqual(sum_range(Report(1, 5, 3, "3")), (8, 10))
        self.assertIsNone(square_range(Report(1, 5, 3, "3"), 16))
        self.assertEqual(sum_range(Report(1, 5, 3, "4", None, "sample", 1)), (11, 11))
        self.assertEqual(sum_range(Report(0, 5, 2, "0")), (0, 1))


if __name__ == "__main__":
    unittest.main()

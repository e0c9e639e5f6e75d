"""Points [4] and [5]: sum_range, can_mean and sizes_for."""

import unittest
from fractions import Fraction
from math import floor

from meansinprint.errors import BadMost
from meansinprint.reports import Report
from meansinprint.sums import can_mean, sizes_for, sum_range
from tests import oracle

BIG = 10 ** 6


class SumRangeTest(unittest.TestCase):
    def check(self, found, *facts):
        """Expect this sum_range, and can_mean to match it."""
        report = Report(*facts)
        with self.subTest(facts):
            self.assertEqual(sum_range(report), found)
            self.assertIs(can_mean(report), found is not None)
            self.assertIn(type(sum_range(report)), (tuple, type(None)))

    def test_plain(self):
        self.check((34, 34), 1, 5, 10, "3.40")
        self.check(None, 1, 5, 10, "3.47")
        self.check((8, 10), 1, 5, 3, "3")
        self.check((9, 9), 1, 5, 3, "3.0")
        self.check((347, 347), 1, 5, 100, "3.47")

    def test_scale(self):
        self.check((3, 4), 1, 5, 3, "1")
        self.check((4, 4), 1, 5, 3, "1.3")
        self.check((14, 15), 1, 5, 3, "5")
        self.check(None, 1, 5, 3, "0")
        self.check(None, 1, 5, 3, "6")
        self.check(None, 1, 5, 3, "9999.9999")
        self.check(None, 1, 5, 3, "-9999.9999")
        # The scale ends within the half unit, and just beyond it.
        self.check((4, 5), 2, 4, 2, "2")
        self.check((7, 8), 2, 4, 2, "4")
        self.check(None, 2, 4, 2, "1")
        self.check(None, 2, 4, 2, "1.9")
        self.check((8, 8), 2, 4, 2, "4.0")
        self.check(None, 2, 4, 2, "4.1")

    def test_scales_at_the_limits(self):
        self.check((-150, -150), -50, -49, 3, "-50.00")
        self.check((-150, -149), -50, -49, 3, "-50")
        self.check((-150, -149), -50, -39, 3, "-50")
        self.check((-50, -50), -50, -49, 1, "-50")
        self.check(None, -50, -49, 1, "-51")
        self.check((149, 150), 49, 50, 3, "50")
        self.check((150, 150), 39, 50, 3, "50.0")
        self.check(None, 39, 50, 3, "51")
        self.check((132, 132), 39, 50, 3, "44.0")

    def test_one_mark(self):
        for mark in range(0, 7):
            self.check((mark, mark) if 1 <= mark <= 5 else None, 1, 5, 1, str(mark))
        self.check(None, 1, 5, 1, "3.47")
        self.check(None, 1, 5, 1, "3.5")
        self.check((3, 3), 1, 5, 1, "3.0000")

    def test_least(self):
        self.check((11, 11), 1, 5, 3, "4", None, "sample", 1)
        self.check(None, 1, 5, 3, "4.0", None, "sample", 1)
        self.check((8, 10), 1, 5, 3, "3", None, "sample", 2)
        self.check((9, 10), 1, 5, 3, "3", None, "sample", 3)
        self.check(None, 1, 5, 3, "3", None, "sample", 4)
        self.check((15, 15), 1, 5, 3, "5", None, "sample", 5)
        self.check((0, 1), 0, 5, 2, "0", None, "sample", 0)

    def test_greatest(self):
        self.check((7, 7), 1, 5, 3, "2", None, "sample", None, 5)
        self.check(None, 1, 5, 3, "2.0", None, "sample", None, 5)
        self.check((8, 9), 1, 5, 3, "3", None, "sample", None, 3)
        self.check((3, 3), 1, 5, 3, "1", None, "sample", None, 1)
        self.check(None, -5, 0, 2, "-5.0", None, "sample", None, 0)
        self.check((-5, -5), -5, 0, 2, "-2.5", None, "sample", None, 0)

    def test_both_ends(self):
        self.check((8, 10), 1, 5, 3, "3", None, "sample", 1, 5)
        self.check((11, 11), 1, 5, 3, "4", None, "sample", 1, 5)
        self.check((7, 7), 1, 5, 3, "2", None, "sample", 1, 5)
        self.check(None, 1, 5, 3, "1", None, "sample", 1, 5)
        self.check((7, 7), 1, 5, 2, "3.5", None, "sample", 2, 5)
        self.check(None, 1, 5, 2, "3.0", None, "sample", 2, 5)

    def test_ends_that_are_alike(self):
        self.check((12, 12), 1, 5, 4, "3", None, "sample", 3, 3)
        self.check((12, 12), 1, 5, 4, "3.0000", None, "sample", 3, 3)
        self.check(None, 1, 5, 4, "3.1", None, "sample", 3, 3)
        self.check((6, 6), 1, 5, 2, "3", None, "sample", 3, 3)

    def test_ends_of_one_mark(self):
        self.check((3, 3), 1, 5, 1, "3", None, "sample", 3, 3)
        self.check((3, 3), 1, 5, 1, "3", None, "sample", 3)
        self.check((3, 3), 1, 5, 1, "3", None, "sample", None, 3)
        self.check((0, 0), -1, 1, 1, "0", None, "sample", 0, 0)
        self.check(None, 1, 5, 1, "3", None, "sample", 1, 5)
        self.check(None, 1, 5, 1, "3", None, "sample", 3, 4)
        self.check(None, 1, 5, 1, "4", None, "sample", 3, 4)
        self.check(None, 1, 5, 1, "4", None, "sample", 3)
        self.check(None, 1, 5, 1, "4", None, "sample", None, 5)

    def test_what_is_not_looked_at(self):
        # Neither the spread nor its kind nor the middle takes a sum away.
        self.check((34, 34), 1, 5, 10, "3.4", "9999", "sample", None, None, "-7")
        self.check((34, 34), 1, 5, 10, "3.4", "0", "whole", None, None, "5")
        self.check((3, 3), 1, 5, 1, "3", "7", "whole", None, None, "1")

    def test_great_sizes(self):
        self.check((3465000, 3475000), 1, 5, BIG, "3.47")
        self.check((3469950, 3470050), 1, 5, BIG, "3.4700")
        self.check((1000000, 1500000), 1, 5, BIG, "1")
        self.check((1000000, 1000000), 1, 5, BIG, "1", None, "sample", 1, 1)
        self.check((4999950, 4999996), 1, 5, BIG, "5.0000", None, "sample", 1)
        self.check((1000004, 1000050), 1, 5, BIG, "1.0000", None, "sample", None, 5)
        self.check((-50000000, -49999950), -50, -39, BIG, "-50.0000")
        self.check((49999950, 49999989), 39, 50, BIG, "50.0000", None, "sample", 39)
        self.check((1, 50), 0, 1, BIG, "0.0000", None, "sample", 0, 1)
        self.check(None, 1, 5, BIG, "5.0001")
        self.check((5000000 - 50, 5000000 - 4), 1, 5, BIG, "5.0000", None, "sample", 1, 5)

    def test_arguments_are_not_changed(self):
        facts = (1, 5, 10, "3.4", "1.26", "sample", 1, 5, "3")
        report = Report(*facts)
        self.assertEqual(sum_range(report), sum_range(report))
        self.assertEqual(can_mean(report), can_mean(report))
        self.assertEqual(sizes_for(report, 30), sizes_for(report, 30))
        self.assertEqual(oracle.facts(report), facts)


class SizesForTest(unittest.TestCase):
    def test_plain(self):
        self.assertEqual(sizes_for(Report(1, 5, 1, "3.47"), 20), [15, 17, 19])
        self.assertEqual(sizes_for(Report(1, 5, 1, "3.47"), 14), [])
        self.assertEqual(sizes_for(Report(1, 5, 1, "3.47"), 15), [15])
        self.assertEqual(sizes_for(Report(1, 5, 1, "3.5"), 5), [2, 4])
        self.assertEqual(sizes_for(Report(1, 5, 1, "7"), 1000), [])

    def test_own_size_does_not_count(self):
        for size in (1, 2, 17, BIG):
            self.assertEqual(sizes_for(Report(1, 5, size, "3.47"), 20), [15, 17, 19])

    def test_most_at_its_limits(self):
        self.assertEqual(sizes_for(Report(1, 5, 7, "3"), 1), [1])
        self.assertEqual(sizes_for(Report(1, 5, 7, "3.5"), 1), [])
        self.assertEqual(sizes_for(Report(1, 5, 7, "3"), 1000), list(range(1, 1001)))
        self.assertEqual(sizes_for(Report(1, 5, 7, "3.001"), 1000), list(range(667, 1001)))

    def test_by_fractions(self):
        # These means are in the scale and no end is told, so only the sums beside the mean need a look.
        for text in ("3.47", "2.005", "3.1416", "-0.33", "1.5", "0"):
            expected = []
            for size in range(1, 1001):
                near = floor(Fraction(text) * size)
                if any(oracle.can_print(Fraction(total, size), text) for total in (near, near + 1)):
                    expected.append(size)
            self.assertEqual(sizes_for(Report(-1, 5, 1, text), 1000), expected, text)

    def test_one_mark_with_a_spread(self):
        self.assertEqual(sizes_for(Report(1, 5, 2, "3", "1.00"), 4), [2, 3, 4])
        self.assertEqual(sizes_for(Report(1, 5, 2, "3", "1.00", "whole"), 4), [1, 2, 3, 4])
        self.assertEqual(sizes_for(Report(1, 5, 1, "3", "1.00", "whole"), 4), [1, 2, 3, 4])
        self.assertEqual(sizes_for(Report(1, 5, 2, "3", None, "sample"), 4), [1, 2, 3, 4])
        self.assertEqual(sizes_for(Report(1, 5, 2, "3", None, "whole"), 4), [1, 2, 3, 4])
        self.assertEqual(sizes_for(Report(1, 5, 2, "3", "0"), 1), [])

    def test_ends_and_the_rest(self):
        # One mark cannot be both ends if they are unlike; two marks are just these then.
        self.assertEqual(sizes_for(Report(1, 5, 9, "3.0", None, "sample", 1, 5), 5), [2, 3, 4, 5])
        self.assertEqual(sizes_for(Report(1, 5, 9, "3.0", None, "sample", 1, 4), 5), [3, 4, 5])
        self.assertEqual(sizes_for(Report(1, 5, 9, "3.0", None, "sample", 3, 3), 3), [1, 2, 3])
        self.assertEqual(sizes_for(Report(1, 5, 9, "3.0", None, "sample", 3), 3), [1, 2, 3])
        self.assertEqual(sizes_for(Report(1, 5, 9, "4.0", None, "sample", 1), 6), [4, 5, 6])
        self.assertEqual(sizes_for(Report(1, 5, 9, "2.0", None, "sample", None, 5), 6), [4, 5, 6])
        self.assertEqual(sizes_for(Report(1, 5, 9, "3.0", "9", "sample", None, None, "-4"), 3), [2, 3])

    def test_bad_most(self):
        report = Report(1, 5, 10, "3.4")
        near = (0, -1, 1001, 10 ** 400, -10 ** 400, "1", "1000", [20], (20,), {20: 20})
        for most in (*near, *oracle.ODD_VALUES):
            with self.subTest(repr(most)[:100]), self.assertRaises(BadMost) as caught:
                sizes_for(report, most)
            self.assertIs(type(caught.exception), BadMost)
        value = [1, [2]]
        with self.assertRaises(BadMost):
            sizes_for(report, value)
        self.assertEqual(value, [1, [2]])

    def test_each_list_is_new(self):
        report = Report(1, 5, 1, "3.47")
        sizes_for(report, 20).append(7)
        self.assertEqual(sizes_for(report, 20), [15, 17, 19])
        self.assertIs(type(sizes_for(report, 20)), list)


if __name__ == "__main__":
    unittest.main()

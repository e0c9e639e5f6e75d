"""Points [8] and [9], and of [2] and [4] what concerns the spread: pairs, verdict and sizes."""

import unittest
from fractions import Fraction

from meansinprint.errors import BadMost, TooMany
from meansinprint.judging import pairs, sizes, verdict
from meansinprint.reports import Report
from meansinprint.sums import sizes_for
from tests import oracle

BIG = 10 ** 6


class VerdictTest(unittest.TestCase):
    def check(self, found, *facts):
        """Expect this verdict, and pairs to match it."""
        report = Report(*facts)
        with self.subTest(facts):
            self.assertEqual(verdict(report), found)
            self.assertIs(pairs(report) != [], found == "good")

    def test_no_spread(self):
        # Without a spread told, only the mean can stand against it, whatever the kind.
        for kind in ("sample", "whole"):
            self.check("good", 1, 5, 10, "3.4", None, kind)
            self.check("mean", 1, 5, 10, "3.47", None, kind)
            self.check("good", 1, 5, 1, "3", None, kind)
        self.assertEqual(pairs(Report(1, 5, 2, "3.0")), [(6, 18), (6, 20), (6, 26)])
        self.assertEqual(pairs(Report(1, 5, 2, "3")), [(5, 13), (5, 17), (6, 18), (6, 20), (6, 26), (7, 25), (7, 29)])
        self.assertEqual(pairs(Report(-1, 1, 2, "0")), [(-1, 1), (0, 0), (0, 2), (1, 1)])

    def test_spread(self):
        self.check("good", 1, 5, 10, "3.4", "1.26")
        self.check("spread", 1, 5, 10, "3.4", "1.30")
        self.check("mean", 1, 5, 10, "3.47", "1.26")
        self.check("gap", 1, 5, 3, "3.0", "1.41")
        self.check("good", 1, 5, 3, "3.0", "1.00")
        self.check("good", 1, 5, 3, "3.0", "1.73")
        self.check("spread", 1, 5, 3, "3.0", "2.01")
        self.check("spread", 1, 5, 3, "3.0", "9999.9999")

    def test_parity_of_the_gap(self):
        # With the sum 9 the spread 1.22 takes 30 as sum of squares, between 27 and 35, but that is even.
        self.check("spread", 1, 5, 3, "3.0", "1.22")
        # With the sum 6 the spread 1.73 takes 21, between 18 and 26, but that is odd; 2.00 takes the gap 22.
        self.check("spread", 1, 5, 2, "3.0", "1.73")
        self.check("gap", 1, 5, 2, "3.0", "2.00")
        self.check("gap", 1, 5, 2, "3.0", "2")
        self.check("good", 1, 5, 2, "3.0", "3")

    def test_ends_of_the_ranges(self):
        # Just the least sum of squares, 27, and the greatest, 35; beyond them there is none.
        self.check("good", 1, 5, 3, "3.0", "0.00")
        self.check("good", 1, 5, 3, "3.0", "2.00")
        self.check("spread", 1, 5, 3, "3.0", "2.24")
        self.check("good", 1, 5, 2, "4.5", "0.71")
        self.check("spread", 1, 5, 2, "4.5", "0.00")

    def test_kinds(self):
        # Of 1, 3, 5 the spread is 2 by the sample, and the root of 8 / 3 by the whole.
        self.check("good", 1, 5, 3, "3.0", "2.0", "sample", 1, 5)
        self.check("spread", 1, 5, 3, "3.0", "2.0", "whole", 1, 5)
        self.check("good", 1, 5, 3, "3.0", "1.6", "whole", 1, 5)
        self.check("spread", 1, 5, 3, "3.0", "1.6", "sample", 1, 5)
        self.assertEqual(pairs(Report(1, 5, 3, "3.0", "1.6", "whole")), [(9, 35)])

    def test_half_a_unit_on_either_side(self):
        # The spread of 0, 3 as a whole is 1.5, of 0, 0, 0, 1 as a sample 0.5: half way between two prints.
        for spread, found in (("0", "spread"), ("1", "good"), ("2", "good"), ("3", "spread"), ("1.5", "good")):
            self.check(found, 0, 3, 2, "1.5", spread, "whole", 0, 3)
        for spread, found in (("0", "good"), ("1", "good"), ("2", "spread"), ("0.5", "good"), ("0.4", "spread")):
            self.check(found, 0, 1, 4, "0.25", spread, "sample", 0, 1)
        # Of 15 times 0 and once 1 it is 0.25 as a sample.
        for spread, found in (("0.1", "spread"), ("0.2", "good"), ("0.3", "good"), ("0.4", "spread"), ("0.25", "good")):
            self.check(found, 0, 1, 16, "0.06", spread, "sample", 0, 1)
        # The mean is 0.25, too, and half way likewise.
        for mean, found in (("0.1", "mean"), ("0.2", "good"), ("0.3", "good"), ("0.4", "mean")):
            self.check(found, 0, 1, 4, mean, "0.5", "sample")

    def test_no_spread_is_below_zero(self):
        # Half a unit below 0 is not as good as half a unit above it: all three sums of squares are told apart.
        self.assertEqual(pairs(Report(1, 5, 2, "3.0", "0")), [(6, 18)])
        self.assertEqual(pairs(Report(1, 5, 2, "3.0", "0.0000", "whole")), [(6, 18)])
        self.assertEqual(pairs(Report(0, 1, 4, "0.25", "0")), [(1, 1)])
        self.assertEqual(pairs(Report(0, 1, 4, "0", "0.0")), [(0, 0)])

    def test_one_mark(self):
        self.check("good", 1, 5, 1, "3", "0", "whole")
        self.check("good", 1, 5, 1, "3", "0.0000", "whole", 3, 3)
        self.check("spread", 1, 5, 1, "3", "1", "whole")
        self.check("spread", 1, 5, 1, "3", "0.1", "whole", 3)
        self.check("mean", 1, 5, 1, "3", "0", "whole", 2, 4)
        self.check("mean", 1, 5, 1, "3", None, "sample", 3, 4)
        self.check("mean", 1, 5, 1, "3", "0", "whole", 2)
        self.check("good", 1, 5, 1, "3", None, "sample", 3, 3)
        self.assertEqual(pairs(Report(1, 5, 1, "3", "0", "whole")), [(3, 9)])

    def test_ends(self):
        self.assertEqual(pairs(Report(1, 5, 3, "3.0", None, "sample", 2)), [(9, 29), (9, 33)])
        self.assertEqual(pairs(Report(1, 5, 3, "3.0", None, "sample", 1, 5)), [(9, 35)])
        self.assertEqual(pairs(Report(1, 5, 3, "3.0", None, "sample", 3, 3)), [(9, 27)])
        self.check("good", 1, 5, 3, "3.0", "0", "sample", 3, 3)
        self.check("spread", 1, 5, 3, "3.0", "1", "sample", 3, 3)
        self.check("mean", 1, 5, 3, "4.0", None, "sample", 3, 3)

    def test_whatever_the_middle(self):
        for middle in (None, "3", "-7", "4"):
            self.check("good", 1, 5, 3, "3.0", "1.00", "sample", None, None, middle)
            self.assertEqual(pairs(Report(1, 5, 3, "3.0", "1.00", "sample", None, None, middle)), [(9, 29)])

    def test_forty_marks(self):
        self.check("good", 0, 1, 40, "0.5", "0.51")
        self.check("good", 0, 1, 40, "0.5", "0.50", "whole")
        self.check("mean", 0, 1, 40, "0.512", "0.50", "whole")
        self.check("spread", 0, 1, 40, "0.5", "0.80")
        self.assertEqual(pairs(Report(0, 1, 40, "0.500")), [(20, 20)])
        # The sum is 40 * 50 there, or once less than that.
        self.assertEqual(pairs(Report(39, 50, 40, "50.00")), [(2000, 100000)])
        self.assertEqual(pairs(Report(39, 50, 40, "49.98")), [(1999, 99901)])
        self.assertEqual(verdict(Report(-50, -39, 40, "-44", "5.55")), "good")
        self.assertEqual(verdict(Report(-50, -39, 40, "-44", "5.60")), "spread")

    def test_too_many(self):
        for size in (41, 42, BIG):
            for told in (("0.5",), ("7",), ("0.5", "0.51"), ("0.5", "9"), ("0", None, "sample", 0, 0)):
                report = Report(0, 1, size, *told)
                self.assertRaises(TooMany, pairs, report)
                self.assertRaises(TooMany, verdict, report)

    def test_each_list_is_new(self):
        facts = (1, 5, 10, "3.4", "1.26", "sample", 1, 5, "3")
        report = Report(*facts)
        pairs(report).append(7)
        self.assertEqual(pairs(report), [(34, 130)])
        self.assertEqual(verdict(report), verdict(report))
        self.assertEqual((type(pairs(report)), type(pairs(report)[0])), (list, tuple))
        self.assertEqual(oracle.facts(report), facts)


class SizesTest(unittest.TestCase):
    def test_plain(self):
        self.assertEqual(sizes(Report(1, 5, 3, "3.0", "1.41"), 4), [2, 4])
        self.assertEqual(sizes(Report(1, 5, 3, "3.0", "1.41"), 3), [2])
        self.assertEqual(sizes(Report(1, 5, 3, "3.0", "1.41"), 1), [])
        self.assertEqual(sizes(Report(1, 5, 3, "7"), 40), [])

    def test_no_spread(self):
        # Then it is the mean alone that decides.
        for kind in ("sample", "whole"):
            for mean in ("3.47", "3.4", "1.00", "6"):
                report = Report(1, 5, 1, mean, None, kind)
                self.assertEqual(sizes(report, 40), sizes_for(report, 40))

    def test_own_size_does_not_count(self):
        for size in (2, 3, 40, 41, BIG):
            self.assertEqual(sizes(Report(1, 5, size, "3.0", "1.41"), 4), [2, 4])
        for size in (1, 9, BIG):
            self.assertEqual(sizes(Report(1, 5, size, "3.0", "1.41", "whole"), 4), [3, 4])

    def test_one_mark(self):
        self.assertEqual(sizes(Report(1, 5, 2, "3", "0"), 3), [2, 3])
        self.assertEqual(sizes(Report(1, 5, 2, "3", "0", "whole"), 3), [1, 2, 3])
        self.assertEqual(sizes(Report(1, 5, 2, "3", None, "sample"), 3), [1, 2, 3])
        self.assertEqual(sizes(Report(1, 5, 2, "3", "1.0", "whole"), 3), [2])
        self.assertEqual(sizes(Report(1, 5, 2, "3", "0"), 1), [])
        self.assertEqual(sizes(Report(1, 5, 2, "3", "0", "whole", 3, 3), 2), [1, 2])
        # The mean of 3, 4 is half way between two prints, and so is their spread; one mark cannot be both ends.
        self.assertEqual(sizes(Report(1, 5, 2, "3", "0", "whole", 3, 4), 2), [2])
        self.assertEqual(sizes(Report(1, 5, 2, "3.0", None, "whole", 2, 4), 3), [2, 3])

    def test_whatever_the_middle(self):
        self.assertEqual(sizes(Report(1, 5, 3, "3.0", "1.41", "sample", None, None, "-9"), 4), [2, 4])

    def test_each_is_a_verdict(self):
        for facts in (("3.4", "1.26"), ("3.47", "0.87"), ("2.9", "2.0", "whole"), ("3", "1", "sample", 2, 5)):
            report = Report(1, 5, 7, *facts)
            good = [size for size in range(2, 41) if verdict(Report(1, 5, size, *facts)) == "good"]
            self.assertEqual([size for size in sizes(report, 40) if size > 1], good)
            self.assertEqual(sizes(report, 17), [size for size in sizes(report, 40) if size <= 17])

    def test_zeros_and_ones(self):
        # So many 0 and 1 have as many squares as ones, so this is told by fractions.
        for mean, spread, kind in (("0.25", "0.5", "sample"), ("0.3", "0.46", "whole"), ("0.1", "0.3", "sample")):
            expected = []
            for size in range(2 if kind == "sample" else 1, 41):
                rows = [[1] * ones + [0] * (size - ones) for ones in range(size + 1)]
                report = Report(0, 1, max(size, 2), mean, spread, kind)
                if any(oracle.fits(report, row) for row in rows):
                    expected.append(size)
            self.assertEqual(sizes(Report(0, 1, 5, mean, spread, kind), 40), expected)
        self.assertTrue(oracle.can_root(Fraction(1, 4), "0"))

    def test_bad_most(self):
        near = (0, -1, 41, 1000, 10 ** 400, -10 ** 400, "1", "40", [20], (20,), {20: 20})
        for report in (Report(1, 5, 10, "3.4"), Report(1, 5, BIG, "3.4", "1.2")):
            for most in (*near, *oracle.ODD_VALUES):
                with self.subTest(repr(most)[:100]), self.assertRaises(BadMost) as caught:
                    sizes(report, most)
                self.assertIs(type(caught.exception), BadMost)

    def test_most_at_its_limits(self):
        self.assertEqual(sizes(Report(1, 5, 7, "3"), 1), [1])
        self.assertEqual(sizes(Report(1, 5, 7, "3"), 40), list(range(1, 41)))
        self.assertEqual(sizes(Report(1, 5, 7, "3.0", None, "sample", 1, 5), 40), list(range(2, 41)))
        self.assertEqual(sizes(Report(-50, -39, 7, "-50.000", "0.0"), 40), list(range(2, 41)))

    def test_each_list_is_new(self):
        facts = (1, 5, 3, "3.0", "1.41", "sample", None, None, "3")
        report = Report(*facts)
        sizes(report, 4).append(7)
        self.assertEqual(sizes(report, 4), [2, 4])
        self.assertIs(type(sizes(report, 4)), list)
        self.assertEqual(oracle.facts(report), facts)


if __name__ == "__main__":
    unittest.main()

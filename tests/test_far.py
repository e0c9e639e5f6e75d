"""Point [16]: far_verdict, against ranges told the long way."""

import unittest
from fractions import Fraction

from meansinprint.errors import TooMany
from meansinprint.far import far_verdict
from meansinprint.judging import verdict
from meansinprint.reports import Report
from meansinprint.sums import square_range, sum_range
from tests import oracle
from tests.short_reports import all_told

BIG = 10 ** 6


def by_lists(report, marks):
    """The verdict by the least and the greatest sum of squares that the lists with the ends have at each sum."""
    sums = {}
    for row in marks:
        total, square = oracle.pair_of(row)
        if oracle.ends_fit(report, row) and oracle.can_print(Fraction(total, report.size), report.mean):
            sums.setdefault(total, []).append(square)
    return by_squares(report, {total: (min(found), max(found)) for total, found in sums.items()})


def by_squares(report, ranges):
    """The verdict by these sums with their ranges, all integers between them tried out."""
    if not ranges:
        return "mean"
    for total, (least, greatest) in ranges.items():
        # The least one is even just if the sum is.
        if any(oracle.gives(report, total, square) for square in range(least, greatest + 1, 2)):
            return "open"
    return "spread"


class FarTest(unittest.TestCase):
    def check(self, expected, *facts):
        with self.subTest(facts=facts):
            self.assertEqual(far_verdict(Report(*facts)), expected)

    def test_short_lists(self):
        seen = {}
        for report, marks in all_told(40):
            found = by_lists(report, marks)
            self.assertEqual(far_verdict(report), found, oracle.facts(report))
            # The ranges cannot tell a gap.
            nearer = {"good": "open", "gap": "open"}
            told = verdict(report)
            self.assertEqual(nearer.get(told, told), found, oracle.facts(report))
            seen[told] = seen.get(told, 0) + 1
        self.assertGreater(min(seen.values()), 10, seen)
        self.assertEqual(len(seen), 4)

    def test_more_than_40_marks(self):
        seen = {}
        for size in (41, 47, 60):
            for mean in ("2", "1.3", "1.28", "2.97", "1.0", "4.0"):
                for spread in ("0", "0.2", "0.50", "0.871", "0.9", "1.00", "1.2"):
                    for kind, least in (("sample", None), ("whole", None), ("sample", 2), ("whole", 1)):
                        report = Report(1, 3, size, mean, spread, kind, least)
                        found = sum_range(report)
                        totals = range(found[0], found[1] + 1) if found else ()
                        expected = by_squares(report, {total: square_range(report, total) for total in totals})
                        self.assertEqual(far_verdict(report), expected, oracle.facts(report))
                        seen[expected] = seen.get(expected, 0) + 1
        self.assertEqual(sorted(seen), ["mean", "open", "spread"])
        self.assertGreater(min(seen.values()), 20, seen)

    def test_without_spread(self):
        self.check("open", 1, 5, 3, "3.0")
        self.check("open", 1, 5, 3, "3.0", None, "whole", 1, 5, "3")
        self.check("mean", 1, 5, 3, "3.1")
        self.check("open", 1, 5, BIG, "3.1234")
        self.check("mean", 1, 5, BIG, "5.1234")

    def test_middle_is_not_looked_at(self):
        self.check("open", 1, 5, 3, "3.0", "2.0", "sample", None, None, "-7")
        self.check("spread", 1, 5, 3, "3.0", "2.1", "sample", None, None, "3")

    def test_ends(self):
        self.check("open", 1, 5, 1, "3", None, "sample", 3, 3)
        self.check("mean", 1, 5, 1, "3", None, "sample", 3, 4)
        self.check("mean", 1, 5, 1, "3", "0", "whole", 3, 4)
        self.check("open", 1, 5, 1, "3", "0", "whole", 3, 3)
        self.check("spread", 1, 5, 1, "3", "1", "whole", 3, 3)
        self.check("open", 1, 5, 9, "3", "0", "whole", 3, 3)
        self.check("spread", 1, 5, 9, "3", "0.0", "whole", 3, 4)
        self.check("mean", 1, 5, 9, "3.0", "0.0", "whole", 3, 4)
        self.check("spread", 1, 5, 1000, "3.5", "1.9", "sample", 2)
        self.check("open", 1, 5, 1000, "3.5", "1.9", "sample", 1)

    def test_parity(self):
        # At the sum 5 those between 9 and 11 are odd; 10 would have the spread 0.9129.
        self.check("spread", 1, 5, 3, "1.67", "0.9129")
        self.check("open", 1, 5, 3, "1.67", "1.1547")
        self.check("open", 1, 5, 3, "1.67", "0.5774")
        # At the sum 9 those between 27 and 35 are 29, 31 and 33; 31 would have the spread 1.41, but 30 has 1.22.
        self.check("open", 1, 5, 3, "3.00", "1.41")
        self.check("spread", 1, 5, 3, "3.00", "1.22")

    def test_half_a_unit(self):
        # Of 63 times 0 and once 1 the spread of a sample is 0.125.
        for spread, expected in (("0.11", "spread"), ("0.12", "open"), ("0.13", "open"), ("0.14", "spread")):
            self.check(expected, 0, 1, 64, "0.016", spread)
        # Half of them 0, half 1: 0.5 in the whole; less is not possible by a sum so near the half.
        for spread, expected in (("0", "open"), ("1", "open"), ("0.5000", "open"), ("0.4999", "spread")):
            self.check(expected, 0, 1, 1000, "0.5000", spread, "whole")

    def test_great_sizes(self):
        # The greatest spread is that of marks at both ends, a sample's just above that of the whole.
        self.check("open", 0, 10, BIG, "5.0000", "5.0000", "whole")
        self.check("spread", 0, 10, BIG, "5.0000", "5.0001", "whole")
        self.check("open", 0, 10, 10 ** 5, "5.0000", "5.0000", "sample")
        self.check("open", 0, 10, 100, "5.00", "5.025", "sample")
        self.check("spread", 0, 10, 100, "5.00", "5.026", "sample")
        self.check("open", -50, -39, BIG, "-50.0000", "0.0000")
        self.check("spread", -50, -39, BIG, "-50.0000", "0.0300")
        self.check("open", 39, 50, BIG, "49.9999", "0.0330", "whole")
        # The least one is that of two marks that are next to each other.
        self.check("open", 1, 5, BIG, "3.5000", "0.5000")
        self.check("spread", 1, 5, BIG, "3.5000", "0.4998")

    def test_just_10000_sums(self):
        # Of 0 and 1 the sums up to half of the size are printed as 0.
        self.assertEqual(sum_range(Report(0, 1, 19999, "0")), (0, 9999))
        self.check("open", 0, 1, 19999, "0")
        self.check("open", 0, 1, 19999, "0", "0.5")
        self.check("spread", 0, 1, 19999, "0", "0.6")
        self.check("spread", 0, 1, 19999, "1", "0.6", "whole")
        self.assertEqual(sum_range(Report(0, 1, 20000, "0")), (0, 10000))
        for facts in (("0",), ("0", "0.5"), ("0", "0.6"), ("1", "0.6", "whole"), ("0", "0.6", "sample", 0)):
            self.assertRaises(TooMany, far_verdict, Report(0, 1, 20000, *facts))
        self.assertEqual(sum_range(Report(0, 1, 20000, "0", "0.6", "sample", 0, 1)), (1, 10000))
        self.check("spread", 0, 1, 20000, "0", "0.6", "sample", 0, 1)

    def test_too_many_sums(self):
        for facts in ((0, 11, BIG, "5"), (0, 11, BIG, "5.0", "2.0"), (0, 11, BIG, "5.00", "0.00", "whole", 0, 11)):
            with self.assertRaises(TooMany) as caught:
                far_verdict(Report(*facts))
            self.assertIs(type(caught.exception), TooMany)
        self.check("open", 0, 11, BIG, "5.000", "2.0")
        # Where there are none, there are not too many.
        self.check("mean", 0, 11, BIG, "12")
        self.check("mean", 0, 11, BIG, "-1", "7")

    def test_repeated(self):
        report = Report(1, 5, 1000, "3.5", "1.2")
        facts = oracle.facts(report)
        self.assertEqual([far_verdict(report), far_verdict(report)], ["open", "open"])
        self.assertEqual(oracle.facts(report), facts)


if __name__ == "__main__":
    unittest.main()

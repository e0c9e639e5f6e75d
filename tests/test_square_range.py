"""Point [6]: square_range."""

import unittest

from meansinprint.errors import BadSum
from meansinprint.reports import Report
from meansinprint.sums import square_range
from tests import oracle

BIG = 10 ** 6


def extremes(low, high, size, least, greatest):
    """For each sum the least and the greatest sum of squares, mark by mark in a table."""
    first = low if least is None else least
    last = high if greatest is None else greatest
    ends = [mark for mark in (least, greatest) if mark is not None]
    if len(ends) > size:
        ends = ends[:1] if least == greatest else None
    if ends is None:
        return {}
    found = {sum(ends): (sum(mark * mark for mark in ends),) * 2}
    for _ in range(size - len(ends)):
        further = {}
        for total, (fewest, most) in found.items():
            for mark in range(first, last + 1):
                few, many = further.get(total + mark, (10 ** 9, -1))
                further[total + mark] = min(few, fewest + mark * mark), max(many, most + mark * mark)
        found = further
    return found


class SquareRangeTest(unittest.TestCase):
    def check(self, found, total, *facts):
        """Expect this square_range."""
        with self.subTest((total, facts)):
            self.assertEqual(square_range(Report(*facts), total), found)

    def test_plain(self):
        self.check((27, 35), 9, 1, 5, 3, "3")
        self.check((27, 35), 9, 1, 5, 3, "1")
        self.check((3, 3), 3, 1, 5, 3, "3")
        self.check((75, 75), 15, 1, 5, 3, "3")
        self.check((6, 6), 4, 1, 5, 3, "3")
        self.check(None, 2, 1, 5, 3, "3")
        self.check(None, 16, 1, 5, 3, "3")
        self.check(None, -9, 1, 5, 3, "3")

    def test_below_zero(self):
        self.check((0, 8), 0, -2, 2, 2, "0")
        self.check((0, 8), 0, -2, 2, 3, "0")
        self.check((1, 9), -1, -2, 2, 3, "0")
        self.check((27, 35), -9, -5, -1, 3, "0")

    def test_ends(self):
        self.check((33, 35), 9, 1, 5, 3, "3", None, "sample", 1)
        self.check((29, 33), 9, 1, 5, 3, "3", None, "sample", 2)
        self.check((27, 27), 9, 1, 5, 3, "3", None, "sample", 3)
        self.check(None, 9, 1, 5, 3, "3", None, "sample", 4)
        self.check((33, 35), 9, 1, 5, 3, "3", None, "sample", None, 5)
        self.check((35, 35), 9, 1, 5, 3, "3", None, "sample", 1, 5)
        self.check((27, 27), 9, 1, 5, 3, "3", None, "sample", 3, 3)
        self.check(None, 8, 1, 5, 3, "3", None, "sample", 3, 3)
        self.check((26, 26), 6, 1, 5, 2, "3", None, "sample", 1, 5)
        self.check(None, 7, 1, 5, 2, "3", None, "sample", 1, 5)
        self.check((18, 18), 6, 1, 5, 2, "3", None, "sample", 3, 3)

    def test_one_mark(self):
        for total in range(-1, 8):
            self.check((total * total, total * total) if 1 <= total <= 5 else None, total, 1, 5, 1, "3")
            for ends in ((3, None), (None, 3), (3, 3)):
                self.check((9, 9) if total == 3 else None, total, 1, 5, 1, "3", None, "sample", *ends)
            self.check(None, total, 1, 5, 1, "3", None, "sample", 2, 4)
            self.check(None, total, 1, 5, 1, "3", None, "sample", 3, 4)

    def test_what_is_not_looked_at(self):
        self.check((27, 35), 9, 1, 5, 3, "9999.9999", "77", "sample", None, None, "-3")
        self.check((27, 35), 9, 1, 5, 3, "-1", "0", "whole", None, None, "5")

    def test_by_tables(self):
        for low, high in ((1, 5), (-3, 2), (0, 1), (-50, -39), (39, 50), (49, 50), (-50, -49), (-5, 6)):
            for size in (1, 2, 3, 7, 12):
                for least, greatest in oracle.end_choices(low, high)[::3] + [(low, high), (low, low), (high, high)]:
                    report = Report(low, high, size, "0", None, "sample", least, greatest)
                    found = extremes(low, high, size, least, greatest)
                    for total in range(low * size - 2, high * size + 3):
                        self.assertEqual(square_range(report, total), found.get(total), (oracle.facts(report), total))

    def test_great_sizes(self):
        self.check((25000000, 50000000), 5 * BIG, 0, 10, BIG, "0")
        self.check((25000011, 50000001), 5 * BIG + 1, 0, 10, BIG, "0")
        self.check((BIG, BIG), BIG, 1, 5, BIG, "0")
        self.check((25 * BIG, 25 * BIG), 5 * BIG, 1, 5, BIG, "0")
        self.check(None, BIG - 1, 1, 5, BIG, "0")
        self.check(None, 5 * BIG + 1, 1, 5, BIG, "0")
        for twos in (0, 1, 77, 499999, BIG - 1, BIG):
            self.check((BIG + 3 * twos,) * 2, BIG + twos, 1, 2, BIG, "0")
        self.check((2500 * BIG, 2500 * BIG), -50 * BIG, -50, -39, BIG, "0")
        self.check((9 * BIG, 9 * BIG), 3 * BIG, 1, 5, BIG, "0", None, "sample", 3, 3)
        # Both ends are one mark each; the others are all 3, or by halves 1 and 5.
        self.check((26 + 9 * (BIG - 2), 26 * BIG // 2), 3 * BIG, 1, 5, BIG, "0", None, "sample", 1, 5)

    def test_bad_sum(self):
        for report in (Report(1, 5, 3, "3"), Report(1, 5, 1, "3", None, "sample", 1, 5)):
            for total in (*oracle.ODD_VALUES, "9", [9], (9,), {9: 9}):
                with self.subTest(repr(total)), self.assertRaises(BadSum) as caught:
                    square_range(report, total)
                self.assertIs(type(caught.exception), BadSum)
        # The scale 0 to 1 has the sums 0 and 1, but False and True are none.
        for total in (False, True):
            self.assertRaises(BadSum, square_range, Report(0, 1, 1, "0"), total)

    def test_far_integers(self):
        for total in (10 ** 400, -10 ** 400, 10 ** 9, -1):
            self.check(None, total, 1, 5, 3, "3")

    def test_arguments_are_not_changed(self):
        facts = (1, 5, 10, "3.4", "1.26", "sample", 1, 5, "3")
        report, value = Report(*facts), [9, [9]]
        self.assertEqual(square_range(report, 34), square_range(report, 34))
        self.assertIs(type(square_range(report, 34)), tuple)
        self.assertRaises(BadSum, square_range, report, value)
        self.assertEqual((oracle.facts(report), value), (facts, [9, [9]]))


if __name__ == "__main__":
    unittest.main()

"""Point [7]: squares and gap."""

import unittest

from meansinprint.errors import BadSum, TooMany
from meansinprint.reports import Report
from meansinprint.squares import gap, squares
from meansinprint.sums import square_range
from tests import oracle

# Of these scales with few marks all lists are gone through, with all ends; low, high and the greatest size.
SCALES = ((0, 1, 6), (1, 3, 6), (-2, 1, 6), (1, 5, 5), (-50, -48, 4), (48, 50, 4), (-5, 6, 3))
BIG = (10 ** 400, -10 ** 400, 10 ** 9)


def first_lacking(found):
    """The least integer like these between the first and the last of them that is none of them."""
    if not found:
        return None
    lacking = [square for square in range(found[0], found[-1]) if square % 2 == found[0] % 2 and square not in found]
    return lacking[0] if lacking else None


def long_table(low, high, size):
    """All sums of squares by sums of so many marks, mark by mark, as sets."""
    found = {0: {0}}
    for _ in range(size):
        further = {}
        for total, row in found.items():
            for mark in range(low, high + 1):
                further.setdefault(total + mark, set()).update(square + mark * mark for square in row)
        found = further
    return found


class SquaresTest(unittest.TestCase):
    def check(self, report, total, found):
        """Expect these squares, their gap, and square_range around them."""
        facts = (oracle.facts(report), total)
        self.assertEqual(squares(report, total), found, facts)
        self.assertEqual(gap(report, total), first_lacking(found), facts)
        self.assertEqual(square_range(report, total), (found[0], found[-1]) if found else None, facts)

    def test_even_and_odd_sums(self):
        report = Report(1, 5, 2, "3")
        rows = (
            (2, [2], None), (3, [5], None), (4, [8, 10], None), (5, [13, 17], 15), (6, [18, 20, 26], 22),
            (7, [25, 29], 27), (8, [32, 34], None), (9, [41], None), (10, [50], None),
        )
        for total, found, lacking in rows:
            self.assertEqual((squares(report, total), gap(report, total)), (found, lacking))

    def test_gap_is_none(self):
        self.assertEqual(squares(Report(0, 2, 4, "1"), 4), [4, 6, 8])
        self.assertIsNone(gap(Report(0, 2, 4, "1"), 4))
        for total in (-1, 9):
            self.assertEqual(squares(Report(0, 2, 4, "1"), total), [])
            self.assertIsNone(gap(Report(0, 2, 4, "1"), total))

    def test_gap_is_the_least(self):
        rows = (
            (Report(1, 5, 4, "3"), 11, [31, 33, 35, 37, 39, 43], 41),
            (Report(0, 9, 2, "4"), 9, [41, 45, 53, 65, 81], 43),
            (Report(0, 9, 3, "1"), 5, [9, 11, 13, 17, 25], 15),
        )
        for report, total, found, lacking in rows:
            self.assertEqual((squares(report, total), gap(report, total)), (found, lacking))

    def test_below_zero(self):
        self.check(Report(-5, -1, 3, "-3"), -9, [27, 29, 33, 35])
        self.check(Report(-2, 2, 2, "0"), 0, [0, 2, 8])
        self.check(Report(-2, 2, 2, "0"), -1, [1, 5])
        self.assertEqual(gap(Report(-2, 2, 2, "0"), 0), 4)
        self.assertEqual(gap(Report(-2, 2, 2, "0"), -1), 3)

    def test_ends(self):
        self.check(Report(1, 5, 3, "3", None, "sample", 1), 9, [33, 35])
        self.check(Report(1, 5, 3, "3", None, "sample", 2), 9, [29, 33])
        self.check(Report(1, 5, 3, "3", None, "sample", None, 5), 9, [33, 35])
        self.check(Report(1, 5, 3, "3", None, "sample", 1, 5), 9, [35])
        self.check(Report(1, 5, 3, "3", None, "sample", 3, 3), 9, [27])
        self.check(Report(1, 5, 3, "3", None, "sample", 3, 3), 8, [])
        self.check(Report(1, 5, 2, "3", None, "sample", 1, 5), 6, [26])
        self.check(Report(1, 5, 2, "3", None, "sample", 1, 5), 7, [])

    def test_one_mark(self):
        for total in range(-1, 8):
            self.check(Report(1, 5, 1, "3"), total, [total * total] if 1 <= total <= 5 else [])
            for ends in ((3, None), (None, 3), (3, 3)):
                self.check(Report(1, 5, 1, "3", None, "sample", *ends), total, [9] if total == 3 else [])
            self.check(Report(1, 5, 1, "3", None, "sample", 2, 4), total, [])

    def test_what_is_not_looked_at(self):
        for facts in (("9999.9999", "77", "sample"), ("-1", "0", "whole")):
            self.check(Report(1, 5, 3, *facts, None, None, "-3"), 9, [27, 29, 33, 35])

    def test_all_lists(self):
        for low, high, most in SCALES:
            for size in range(1, most + 1):
                found = oracle.tables(low, high, size)
                for least, greatest in oracle.end_choices(low, high):
                    sums = oracle.by_ends(found, least, greatest)
                    report = Report(low, high, size, "0", None, "sample", least, greatest)
                    for total in range(low * size - 2, high * size + 3):
                        self.check(report, total, sorted(sums.get(total, ())))

    def test_forty_marks(self):
        for low, high in ((0, 1), (-1, 2), (47, 50)):
            found = long_table(low, high, 40)
            report = Report(low, high, 40, "0")
            for total in range(low * 40 - 1, high * 40 + 2):
                self.check(report, total, sorted(found.get(total, ())))
        # With the ends told 38 others are left.
        found = long_table(-1, 2, 38)
        report = Report(-2, 3, 40, "0", None, "whole", -1, 2)
        for total in range(-40, 81):
            self.check(report, total, [square + 5 for square in sorted(found.get(total - 1, ()))])

    def test_wide_scales(self):
        for low, high, size in ((-50, -39, 9), (39, 50, 9), (-5, 6, 10)):
            found = long_table(low, high, size)
            for total in range(low * size - 1, high * size + 2, 3):
                self.check(Report(low, high, size, "0"), total, sorted(found.get(total, ())))

    def test_widest(self):
        report = Report(39, 50, 40, "44.5")
        found = squares(report, 1780)
        self.assertEqual((found[0], found[-1]), square_range(report, 1780))
        self.assertEqual({square % 2 for square in found}, {0})
        self.assertEqual(gap(report, 1780), first_lacking(found))

    def test_too_many(self):
        self.assertEqual(squares(Report(0, 1, 40, "0"), 7), [7])
        self.assertIsNone(gap(Report(0, 1, 40, "0"), 7))
        for size in (41, 42, 1000, 10 ** 6):
            for total in (7, 0, -1, *BIG):
                for ends in ((None, None), (0, 0), (0, 1)):
                    report = Report(0, 1, size, "0", None, "sample", *ends)
                    self.assertRaises(TooMany, squares, report, total)
                    self.assertRaises(TooMany, gap, report, total)

    def test_bad_sum(self):
        # It comes ahead of TooMany, and of there being no list.
        reports = (
            Report(0, 1, 3, "0"), Report(1, 5, 1, "3", None, "sample", 1, 5), Report(0, 1, 40, "0"),
            Report(0, 1, 41, "0"), Report(0, 1, 10 ** 6, "0"),
        )
        for report in reports:
            for total in (*oracle.ODD_VALUES, "9", [9], (9,), {9: 9}):
                for function in (squares, gap):
                    with self.subTest(repr(total)), self.assertRaises(BadSum) as caught:
                        function(report, total)
                    self.assertIs(type(caught.exception), BadSum)

    def test_far_integers(self):
        for total in BIG:
            self.check(Report(1, 5, 3, "3"), total, [])

    def test_each_list_is_new(self):
        facts = (1, 5, 3, "3", "1.0", "sample", None, 5, "3")
        report = Report(*facts)
        squares(report, 9).append(7)
        self.assertEqual(squares(report, 9), [33, 35])
        self.assertIs(type(squares(report, 9)), list)
        self.assertEqual(gap(report, 9), gap(report, 9))
        self.assertEqual(oracle.facts(report), facts)


if __name__ == "__main__":
    unittest.main()

"""Points [2], [4], [5] and [6] for few marks, by all lists of the scale, one by one."""

import unittest
from fractions import Fraction

from meansinprint.reports import Report
from meansinprint.sums import can_mean, sizes_for, square_range, sum_range
from tests import oracle

# Of these scales all ends are told; low, high and the greatest size.
SCALES = ((0, 1, 6), (1, 2, 5), (-1, 1, 5), (1, 5, 4), (-4, 0, 4), (-50, -49, 4), (49, 50, 4), (-2, 3, 3))
# Of these wide ones some.
WIDE_SCALES = ((-50, -39, 3), (39, 50, 3), (-5, 6, 3), (0, 11, 3))


def prints_near(low, high, size):
    """Prints beside all means of so many marks, on either side, with 0 to 4 digits."""
    found = {}
    for digits in range(5):
        for total in range((low - 1) * size, (high + 1) * size + 1):
            near = total * 10 ** digits // size
            for units in range(near - 1, near + 3):
                found[oracle.written(units, digits)] = True
    return list(found)


def fitting_sums(sums, size, mean):
    """The sums by which the mean can be printed so, ascending."""
    return [total for total in sorted(sums) if oracle.can_print(Fraction(total, size), mean)]


class AllListsTest(unittest.TestCase):
    def check_means(self, low, high, size, least, greatest, sums):
        """Compare sum_range and can_mean for all prints that matter."""
        for mean in prints_near(low, high, size):
            report = Report(low, high, size, mean, None, "sample", least, greatest)
            found = fitting_sums(sums, size, mean)
            expected = (found[0], found[-1]) if found else None
            self.assertEqual(sum_range(report), expected, oracle.facts(report))
            self.assertIs(can_mean(report), found != [], oracle.facts(report))
            if found:
                # All sums between the least and the greatest one can be, too.
                self.assertEqual(found, list(range(found[0], found[-1] + 1)))

    def check_squares(self, low, high, size, least, greatest, sums):
        """Compare square_range for all sums, and some that cannot be."""
        report = Report(low, high, size, "0", None, "sample", least, greatest)
        for total in range(low * size - 3, high * size + 4):
            squares = sums.get(total)
            expected = None if squares is None else (min(squares), max(squares))
            self.assertEqual(square_range(report, total), expected, (oracle.facts(report), total))
            if squares is not None:
                self.assertEqual({square % 2 for square in squares}, {total % 2})

    def test_all_ends(self):
        for low, high, most in SCALES:
            for size in range(1, most + 1):
                found = oracle.tables(low, high, size)
                for least, greatest in oracle.end_choices(low, high):
                    sums = oracle.by_ends(found, least, greatest)
                    self.check_squares(low, high, size, least, greatest, sums)
                    self.check_means(low, high, size, least, greatest, sums)

    def test_wide_scales(self):
        for low, high, most in WIDE_SCALES:
            choices = oracle.end_choices(low, high)
            for size in range(1, most + 1):
                found = oracle.tables(low, high, size)
                for least, greatest in choices:
                    sums = oracle.by_ends(found, least, greatest)
                    self.check_squares(low, high, size, least, greatest, sums)
                for least, greatest in choices[::13]:
                    sums = oracle.by_ends(found, least, greatest)
                    self.check_means(low, high, size, least, greatest, sums)

    def test_sizes_for(self):
        low, high, most = 1, 4, 5
        found = {size: oracle.tables(low, high, size) for size in range(1, most + 1)}
        for least, greatest in oracle.end_choices(low, high):
            for mean in ("1", "2", "2.0", "2.3", "2.33", "2.5", "2.50", "2.75", "3.2", "3.3", "4", "4.0", "0.5", "5"):
                fits = [
                    size for size in found
                    if fitting_sums(oracle.by_ends(found[size], least, greatest), size, mean)
                ]
                for spread, kind in ((None, "sample"), (None, "whole"), ("1.0", "sample"), ("1.0", "whole")):
                    report = Report(low, high, 7, mean, spread, kind, least, greatest)
                    fewest = 2 if (spread, kind) == ("1.0", "sample") else 1
                    expected = [size for size in fits if size >= fewest]
                    self.assertEqual(sizes_for(report, most), expected, oracle.facts(report))


if __name__ == "__main__":
    unittest.main()

"""Point [18]: lists by their numbers, against all lists, one by one."""

import unittest
from fractions import Fraction

from meansinprint.errors import BadNumber, TooMany
from meansinprint.numbering import kth_list, many_lists, rank_list
from meansinprint.reports import Report
from tests import oracle
from tests.short_reports import all_told


class ShortListsTest(unittest.TestCase):
    def check(self, report, rows):
        """Compare the numbers of all the lists, there and back."""
        facts = oracle.facts(report)
        self.assertEqual(many_lists(report), len(rows), facts)
        self.assertEqual([kth_list(report, k) for k in range(len(rows))], rows, facts)
        self.assertEqual([rank_list(report, row) for row in rows], list(range(len(rows))), facts)
        for k in (-1, len(rows), len(rows) + 1, -len(rows), True, False, None, "0", 0.0, (0,)):
            if k not in range(len(rows)) or isinstance(k, (bool, float)):
                self.assertRaises(BadNumber, kth_list, report, k)

    def test_all(self):
        seen = {}
        for report, marks in all_told(45):
            if report.high - report.low > 6:
                continue
            rows = [row for row in marks if oracle.fits_but_middle(report, row)]
            self.check(report, rows)
            for row in marks:
                if row not in rows:
                    self.assertIsNone(rank_list(report, row), (oracle.facts(report), row))
            many = min(len(rows), 4)
            seen[many] = seen.get(many, 0) + 1
        self.assertEqual(sorted(seen), [0, 1, 2, 3, 4])
        self.assertGreater(min(seen.values()), 20, seen)

    def test_seven_marks(self):
        for facts in (("3",), ("3.0", "1.2"), ("2.57", None, "whole", 1), ("3", "1", "whole", None, 5),
                      ("3.1", "1.6", "sample", 1, 5)):
            report = Report(1, 5, 7, *facts)
            rows = oracle.multisets(1, 5, 7)
            self.check(report, [row for row in rows if oracle.fits_but_middle(report, row)])

    def test_one_mark(self):
        self.check(Report(-3, 3, 1, "0"), [(0,)])
        self.check(Report(-3, 3, 1, "0.5", "0", "whole"), [])
        self.check(Report(1, 5, 1, "3", None, "sample", 3), [(3,)])
        self.check(Report(1, 5, 1, "3", None, "sample", None, 3), [(3,)])
        self.check(Report(1, 5, 1, "3", None, "sample", 3, 3), [(3,)])
        self.check(Report(1, 5, 1, "3", "0.1", "whole", 3, 3), [])
        self.check(Report(1, 5, 1, "3", None, "sample", 3, 4), [])
        self.check(Report(1, 5, 1, "3", None, "sample", 2, 4), [])

    def test_both_ends(self):
        self.check(Report(1, 5, 2, "3", None, "sample", 1, 5), [(1, 5)])
        self.check(Report(1, 5, 2, "3", None, "sample", 2, 5), [(2, 5)])
        self.check(Report(1, 5, 2, "3.0", None, "sample", 2, 5), [])
        self.check(Report(1, 5, 2, "4", None, "sample", 2, 5), [(2, 5)])
        self.check(Report(1, 5, 4, "3", None, "sample", 3, 3), [(3, 3, 3, 3)])
        self.check(Report(1, 5, 4, "3", "1", "sample", 3, 3), [])
        self.check(Report(1, 5, 3, "3", None, "sample", 2, 4), [(2, 2, 4), (2, 3, 4), (2, 4, 4)])

    def test_middle_is_not_looked_at(self):
        report = Report(1, 5, 3, "3.0", None, "sample", None, None, "5")
        self.check(report, [(1, 3, 5), (1, 4, 4), (2, 2, 5), (2, 3, 4), (3, 3, 3)])
        self.assertEqual(report.middle, "5")


class LimitsTest(unittest.TestCase):
    def test_16_marks_on_7(self):
        low, size = 44, 16
        rows = oracle.multisets(low, low + 6, size)
        self.assertEqual(len(rows), 74613)
        report = Report(low, low + 6, size, "47.1", "1.5")
        found = []
        for row in rows:
            total, square = oracle.pair_of(row)
            if oracle.can_print(Fraction(total, size), "47.1") and oracle.gives(report, total, square):
                found.append(row)
        self.assertEqual(many_lists(report), len(found))
        for k in (0, 1, len(found) // 3, len(found) // 2, len(found) - 2, len(found) - 1):
            self.assertEqual(kth_list(report, k), found[k])
            self.assertEqual(rank_list(report, found[k]), k)
        for k in (-1, len(found), len(found) + 1, 74612, 10 ** 30):
            self.assertRaises(BadNumber, kth_list, report, k)
        self.assertIsNone(rank_list(report, rows[0]))

    def test_wide_means_of_16_marks(self):
        # Each of them is counted once: those with a sum above, below and in the middle.
        rows = oracle.multisets(0, 6, 16)
        for mean in ("0", "3", "6"):
            expected = sum(oracle.can_print(Fraction(sum(row), 16), mean) for row in rows)
            self.assertEqual(many_lists(Report(0, 6, 16, mean)), expected)
        self.assertEqual(kth_list(Report(0, 6, 16, "0.06"), 0), (0,) * 15 + (1,))
        self.assertEqual(rank_list(Report(0, 6, 16, "6.0"), (6,) * 16), many_lists(Report(0, 6, 16, "6.0")) - 1)

    def test_too_many(self):
        for facts in ((0, 6, 17, "3"), (0, 7, 16, "3"), (0, 7, 1, "3"), (0, 1, 17, "0"), (0, 11, 10 ** 6, "99"),
                      (0, 7, 2, "3", None, "sample", 3, 4)):
            report = Report(*facts)
            self.assertRaises(TooMany, many_lists, report)
            for value in (0, -1, None, True, (0,) * 17, []):
                for function in (kth_list, rank_list):
                    with self.assertRaises(TooMany) as caught:
                        function(report, value)
                    self.assertIs(type(caught.exception), TooMany)


class ValuesTest(unittest.TestCase):
    def test_numbers(self):
        report = Report(1, 5, 3, "3.0")
        for value in (*oracle.ODD_VALUES, -1, 5, 6, 10 ** 30, -10 ** 30, "0", (0,), [0]):
            self.assertRaises(BadNumber, kth_list, report, value)
        for value in (0, -1, 1, True, False, None):
            self.assertRaises(BadNumber, kth_list, Report(1, 5, 3, "3.1"), value)

    def test_values_that_are_no_list(self):
        values = (*oracle.ODD_VALUES, (1, 0), (2, 0), [0, 2], [1, 1], (0,), (0, 1, 1), (0, 3), (-1, 3), (True, True),
                  (0, True), (False, 1), (False, True), (1, "1"), (1, None), ((1, 1),), ((0,), 2), {0: 1, 2: 1},
                  "02", 2, (0, 1), (0, 0), (2, 2), (0, [2]), {})
        for value in values:
            self.assertIsNone(rank_list(Report(0, 2, 2, "1.0"), value), value)
        self.assertEqual([rank_list(Report(0, 2, 2, "1.0"), value) for value in ((0, 2), (1, 1))], [0, 1])

    def test_what_is_returned(self):
        report = Report(1, 5, 3, "3.0")
        facts = oracle.facts(report)
        self.assertEqual([many_lists(report), many_lists(report)], [5, 5])
        self.assertIs(type(kth_list(report, 2)), tuple)
        self.assertEqual([kth_list(report, 2), kth_list(report, 2)], [(2, 2, 5), (2, 2, 5)])
        value = [1, 3, 5]
        self.assertIsNone(rank_list(report, value))
        self.assertEqual(value, [1, 3, 5])
        self.assertEqual(oracle.facts(report), facts)


if __name__ == "__main__":
    unittest.main()

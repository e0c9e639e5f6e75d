"""Points [10] and [11], and [4] of single lists: fits, and all lists of a report."""

import unittest
from itertools import permutations

from meansinprint.errors import TooMany
from meansinprint.lists import all_lists, count_lists, first_list, fits, often, sure_marks
from meansinprint.reports import Report
from tests import oracle

BIG = 10 ** 6
FUNCTIONS = (count_lists, all_lists, first_list, often, sure_marks)


class FitsTest(unittest.TestCase):
    def check(self, found, value, *facts):
        """Expect this of a value, as a tuple likewise if it is a list."""
        report = Report(*facts)
        with self.subTest(repr(value)[:100], facts=facts):
            self.assertIs(fits(report, value), found)
            if isinstance(value, list):
                self.assertIs(fits(report, tuple(value)), found)

    def test_any_order(self):
        report = Report(1, 5, 3, "3.0", "2.0", "sample", 1, 5, "3")
        for marks in permutations((1, 3, 5)):
            self.assertIs(fits(report, marks), True)
            self.assertIs(fits(report, list(marks)), True)

    def test_size(self):
        for value in ([], [3], [3, 3], [3, 3, 3, 3], [1, 2, 3, 4, 5]):
            self.check(len(value) == 2, value, 1, 5, 2, "3")
        self.check(True, [3], 1, 5, 1, "3")
        # Here the sum, the spread and the middle are right with any number of 0.
        for size in range(1, 5):
            for many in range(6):
                self.check(many == size, [0] * many, -1, 1, size, "0", "0", "whole", None, None, "0")
        self.check(False, [-1, 0, 1], -1, 1, 2, "0")

    def test_scale(self):
        self.check(True, [1, 5], 1, 5, 2, "3")
        self.check(False, [0, 6], 1, 5, 2, "3")
        self.check(False, [0, 5], 1, 5, 2, "3")
        self.check(False, [10 ** 400, -10 ** 400], 1, 5, 2, "0")
        self.check(True, [-50, -39], -50, -39, 2, "-44.5")
        self.check(True, [39, 50], 39, 50, 2, "44.5")

    def test_mean(self):
        self.check(True, [1, 2], 1, 5, 2, "1.5")
        self.check(True, [1, 2], 1, 5, 2, "1")
        self.check(True, [1, 2], 1, 5, 2, "2")
        self.check(False, [1, 2], 1, 5, 2, "3")
        self.check(False, [1, 2], 1, 5, 2, "1.4")
        self.check(True, [-1, 0], -1, 5, 2, "0")
        self.check(True, [-1, 0], -1, 5, 2, "-1")
        self.check(True, [-1, 0], -1, 5, 2, "-0.5")
        self.check(False, [-1, 0], -1, 5, 2, "0.5")

    def test_ends(self):
        for least, greatest, found in ((2, None, True), (1, None, False), (3, None, False), (None, 4, True),
                                       (None, 5, False), (2, 4, True), (2, 5, False), (1, 4, False), (3, 4, False)):
            self.check(found, [4, 2, 3], 1, 5, 3, "3", None, "sample", least, greatest)
        self.check(True, [3, 3, 3], 1, 5, 3, "3", None, "sample", 3, 3)
        self.check(False, [3, 3, 2], 1, 5, 3, "3", None, "sample", 3, 3)
        self.check(True, [3], 1, 5, 1, "3", None, "sample", 3, 3)
        self.check(False, [3], 1, 5, 1, "3", None, "sample", 3, 4)
        self.check(False, [4], 1, 5, 1, "4", None, "sample", 3, 4)
        self.check(True, [0, -1], -1, 1, 2, "0", None, "sample", None, 0)
        self.check(True, [0, 1], -1, 1, 2, "0", None, "sample", 0)
        self.check(False, [-1, 1], -1, 1, 2, "0", None, "sample", 0)

    def test_middle(self):
        self.check(True, [5, 1, 3], 1, 5, 3, "3", None, "sample", None, None, "3")
        self.check(True, [5, 1, 3], 1, 5, 3, "3", None, "sample", None, None, "3.0000")
        self.check(False, [5, 1, 3], 1, 5, 3, "3", None, "sample", None, None, "5")
        self.check(False, [5, 1, 3], 1, 5, 3, "3", None, "sample", None, None, "1")
        self.check(False, [3, 1, 1], 1, 5, 3, "2", None, "sample", None, None, "2")
        # Of 1, 2, 3, 5 it is 2.5, half way between two prints.
        for middle, found in (("2", True), ("3", True), ("2.5", True), ("1", False), ("4", False), ("2.4", False)):
            self.check(found, [5, 1, 3, 2], 1, 5, 4, "3", None, "sample", None, None, middle)
        for middle, found in (("-1", True), ("0", True), ("-0.5", True), ("0.5", False), ("-2", False)):
            self.check(found, [-1, 0], -1, 5, 2, "0", None, "sample", None, None, middle)
        self.check(True, [2], 1, 5, 1, "2", None, "sample", None, None, "2")
        self.check(False, [2], 1, 5, 1, "2", None, "sample", None, None, "3")

    def test_spread(self):
        self.check(True, [1, 3, 5], 1, 5, 3, "3", "2.0000")
        self.check(False, [1, 3, 5], 1, 5, 3, "3", "1.6330")
        self.check(True, [1, 3, 5], 1, 5, 3, "3", "1.6330", "whole")
        self.check(False, [1, 3, 5], 1, 5, 3, "3", "2.0000", "whole")
        self.check(True, [3], 1, 5, 1, "3", "0", "whole")
        self.check(False, [3], 1, 5, 1, "3", "1", "whole")
        self.check(False, [3], 1, 5, 1, "3", "0.1", "whole")
        # Without a spread the kind says nothing, not even of one mark.
        self.check(True, [3], 1, 5, 1, "3", None, "sample")
        self.check(True, [3], 1, 5, 1, "3", None, "whole")

    def test_spread_half_a_unit_away(self):
        for spread, found in (("0", False), ("1", True), ("2", True), ("3", False)):
            self.check(found, [0, 3], 0, 3, 2, "1.5", spread, "whole")
        for spread, found in (("0", True), ("1", True), ("2", False)):
            self.check(found, [0, 0, 1, 0], 0, 1, 4, "0.25", spread)
        # 63 times 0 and once 1 has the spread 0.125 as a sample.
        for spread, found in (("0.11", False), ("0.12", True), ("0.13", True), ("0.14", False), ("0.125", True)):
            self.check(found, [0] * 63 + [1], 0, 1, 64, "0.016", spread)

    def test_no_booleans(self):
        for value in ([True, False], [True, 0], [1, False], [0, True]):
            self.check(False, value, 0, 1, 2, "0")
            self.check(False, value, 0, 1, 2, "1")
        self.check(True, [1, 0], 0, 1, 2, "0")

    def test_other_values(self):
        deep = 3
        for _ in range(39):
            deep = [deep]
        values = (*oracle.ODD_VALUES, 3, "3", "33", ["3", "3"], [3, None], [3, [3]], [[3], 3], {3: 3}, {3: 3, 4: 3},
                  ((3, 3),), [deep, 3], deep, {0: 3, 1: 3}, b"33", range(3, 5), [3, "3"], [3, (3,)], [3, {}])
        for value in values:
            self.check(False, value, 1, 5, 2, "3")
            self.check(False, value, 1, 5, 1, "4")

    def test_great_sizes(self):
        # There is no TooMany here.
        report = Report(1, 5, BIG, "3.0000", "2.0000", "whole", 1, 5, "3")
        marks = [1, 5] * (BIG // 2)
        self.assertIs(fits(report, marks), True)
        self.assertIs(fits(report, marks[1:]), False)
        marks[0] = 2
        self.assertIs(fits(report, marks), True)
        marks[2:1000] = [5] * 998
        self.assertIs(fits(report, marks), False)

    def test_values_are_not_changed(self):
        report = Report(1, 5, 3, "3.0")
        value = [5, 1, 3]
        self.assertIs(fits(report, value), fits(report, value))
        self.assertEqual(value, [5, 1, 3])


class ListsTest(unittest.TestCase):
    def test_ascending(self):
        self.assertEqual(all_lists(Report(-1, 1, 2, "0")), [(-1, 0), (-1, 1), (0, 0), (0, 1)])
        self.assertEqual(all_lists(Report(9, 11, 2, "10")), [(9, 10), (9, 11), (10, 10), (10, 11)])
        self.assertEqual(first_list(Report(-1, 1, 2, "0")), (-1, 0))
        self.assertEqual(all_lists(Report(1, 5, 1, "3")), [(3,)])

    def test_none_fits(self):
        for facts in (("3.1",), ("3", "9"), ("3", None, "sample", None, None, "-4"), ("1", None, "sample", 5)):
            report = Report(1, 5, 3, *facts)
            self.assertEqual([function(report) for function in FUNCTIONS], [0, [], None, None, None])
        report = Report(1, 5, 1, "3", None, "sample", 3, 4)
        self.assertEqual([function(report) for function in FUNCTIONS], [0, [], None, None, None])

    def test_one_fits(self):
        report = Report(1, 5, 3, "3.0", "2.0")
        found = [1, [(1, 3, 5)], (1, 3, 5), [(1, 1, 1), (2, 0, 0), (3, 1, 1), (4, 0, 0), (5, 1, 1)], [1, 3, 5]]
        self.assertEqual([function(report) for function in FUNCTIONS], found)
        report = Report(1, 3, 4, "2.0", "0.0")
        self.assertEqual(often(report), [(1, 0, 0), (2, 4, 4), (3, 0, 0)])
        self.assertEqual(sure_marks(report), [2])

    def test_no_sure_mark(self):
        self.assertEqual(sure_marks(Report(1, 5, 3, "3.0")), [])
        self.assertEqual(often(Report(1, 5, 2, "3.0")), [(1, 0, 1), (2, 0, 1), (3, 0, 2), (4, 0, 1), (5, 0, 1)])

    def test_just_20000_lists(self):
        # Of 0 and 1 there is one list more than marks.
        report = Report(0, 1, 19999, "0.0000")
        few = (0,) * 19999
        found = [1, [few], few, [(0, 19999, 19999), (1, 0, 0)], [0]]
        self.assertEqual([function(report) for function in FUNCTIONS], found)
        report = Report(0, 1, 19999, "0", "0.5", "sample", 0, 1, "0")
        # From 5641 to 9999 ones the spread is from 0.45 on, and the mean up to 0.5.
        self.assertEqual(count_lists(report), 4359)
        self.assertEqual(often(report), [(0, 10000, 14358), (1, 5641, 9999)])
        self.assertEqual(sure_marks(report), [0, 1])
        self.assertEqual(count_lists(Report(0, 1, 19999, "0")), 10000)
        self.assertRaises(TooMany, count_lists, Report(0, 1, 20000, "0.0000"))

    def test_more_than_20000_lists(self):
        # It does not matter whether they fit: the scale and the size alone decide.
        reports = (
            Report(0, 1, 20000, "0.0000"), Report(0, 1, 20000, "7"), Report(0, 1, BIG, "0.5"),
            Report(0, 2, 199, "0.000"), Report(0, 11, 7, "5", None, "sample", 5, 5), Report(39, 50, BIG, "45", "1.2"),
            Report(0, 3, 48, "0.000"),
        )
        for report in reports:
            for function in FUNCTIONS:
                with self.assertRaises(TooMany) as caught:
                    function(report)
                self.assertIs(type(caught.exception), TooMany)

    def test_nearly_20000_lists(self):
        # These have 19900, 12376 and 19600 lists; of all but a few the mean is another.
        self.assertEqual(all_lists(Report(0, 2, 198, "0.005")), [(0,) * 197 + (1,)])
        self.assertEqual(all_lists(Report(0, 11, 6, "0.17")), [(0, 0, 0, 0, 0, 1)])
        self.assertEqual(count_lists(Report(0, 3, 47, "0.043")), 2)

    def test_just_200_lists(self):
        # Of 0 and 1 the sums up to half of the size fit.
        for size in (398, 399):
            found = all_lists(Report(0, 1, size, "0"))
            self.assertEqual(found, [(0,) * (size - ones) + (1,) * ones for ones in range(200)])
            self.assertEqual(count_lists(Report(0, 1, size, "0")), 200)
        for size in (400, 401):
            report = Report(0, 1, size, "0")
            self.assertRaises(TooMany, all_lists, report)
            self.assertEqual(count_lists(report), 201)
            self.assertEqual(first_list(report), (0,) * size)
            self.assertEqual(often(report), [(0, size - 200, size), (1, 0, 200)])
            self.assertEqual(sure_marks(report), [0])

    def test_what_is_returned_is_new(self):
        facts = (1, 5, 3, "3.0", "2.0", "sample", 1, 5, "3")
        report = Report(*facts)
        for function in (all_lists, often, sure_marks):
            found = function(report)
            self.assertIs(type(found), list)
            found.append(7)
            self.assertEqual(function(report), found[:-1])
        self.assertEqual((type(all_lists(report)[0]), type(often(report)[0])), (tuple, tuple))
        self.assertIs(type(first_list(report)), tuple)
        self.assertEqual(first_list(report), first_list(report))
        self.assertEqual(count_lists(report), count_lists(report))
        self.assertEqual(oracle.facts(report), facts)


if __name__ == "__main__":
    unittest.main()

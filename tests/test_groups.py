"""Point [19]: groups of a whole, against all lists of both."""

import unittest
from fractions import Fraction
from random import Random

from meansinprint.errors import BadDigits, BadSize, TooMany, Unlike
from meansinprint.groups import rest_prints, split_pairs
from meansinprint.reports import Report
from tests import oracle
from tests.short_reports import a_print, a_report

# low, high and the greatest size of the whole.
SCALES = ((0, 1, 7), (1, 3, 7), (-2, 1, 5), (1, 5, 5), (-50, -48, 4), (44, 50, 4), (-3, 4, 3), (0, 11, 3))
BIG = 10 ** 6


def pairs_of(report, marks):
    """The ascending list of the pairs of the lists that fit, whatever the middle."""
    return sorted({oracle.pair_of(row) for row in marks if oracle.fits_but_middle(report, row)})


def plain(report):
    """The report with no more than what is looked at of a whole."""
    return Report(*oracle.facts(report)[:6])


def a_group(rows, low, high, source):
    """A report of one of the lists, or one that tells more of one that is nearly there."""
    if source.randrange(4) == 0:
        return a_report(rows, low, high, source)
    marks = source.choice(rows)
    kind = "whole" if len(marks) == 1 else source.choice(("sample", "whole"))
    spread = oracle.root_prints(oracle.spread_square(marks, kind), source.choice((0, 0, 1)))[0]
    mean = a_print(Fraction(sum(marks), len(marks)), source).removesuffix(".0")
    return Report(low, high, len(marks), mean, source.choice((None, None, spread)), kind)


def told_groups(many):
    """Wholes with two groups, each with all lists of its scale and size; the same ones whenever they are told."""
    source = Random(19)
    for low, high, most in SCALES:
        for size in range(2, most + 1):
            for _ in range(many):
                left = source.randrange(1, size)
                rows = [oracle.multisets(low, high, each) for each in (left, size - left)]
                one, other = [a_group(marks, low, high, source) for marks in rows]
                # Mostly the whole is one that some of the groups' lists make.
                likely = [[row for row in marks if oracle.fits(report, row)] or marks
                          for report, marks in zip((one, other), rows)]
                joined = [tuple(sorted(source.choice(likely[0]) + source.choice(likely[1])))]
                yield a_group(joined, low, high, source), (one, rows[0]), (other, rows[1])


class ShortListsTest(unittest.TestCase):
    def test_split_pairs(self):
        seen = {}
        for whole, (one, rows), (other, more) in told_groups(40):
            expected = [
                (first, second) for first in pairs_of(one, rows) for second in pairs_of(other, more)
                if oracle.gives(plain(whole), first[0] + second[0], first[1] + second[1])
            ]
            facts = [oracle.facts(report) for report in (whole, one, other)]
            self.assertEqual(split_pairs(whole, one, other), expected, facts)
            turned = sorted((second, first) for first, second in expected)
            self.assertEqual(split_pairs(whole, other, one), turned, facts)
            many = min(len(expected), 3)
            seen[many] = seen.get(many, 0) + 1
        self.assertEqual(sorted(seen), [0, 1, 2, 3])
        self.assertGreater(min(seen.values()), 30, seen)

    def test_rest_prints(self):
        seen, at = {}, 0
        for whole, (one, rows), (other, more) in told_groups(40):
            if other.size == 1 and whole.kind == "sample":
                continue
            at += 1
            digits, others = at % 5, at // 5 % 5
            known = pairs_of(one, rows)
            gives = {}
            for row in more:
                total, square = oracle.pair_of(row)
                gives[total, square] = any(oracle.gives(plain(whole), total + s, square + q) for s, q in known)
            left = [row for row in more if gives[oracle.pair_of(row)]]
            expected = oracle.two_prints(left, whole.kind, digits, others)
            facts = [oracle.facts(report) for report in (whole, one)]
            self.assertEqual(rest_prints(whole, one, digits, others), expected, (facts, digits, others))
            many = min(len(expected), 3)
            seen[many] = seen.get(many, 0) + 1
        self.assertEqual(sorted(seen), [0, 1, 2, 3])
        self.assertGreater(min(seen.values()), 20, seen)


class SplitTest(unittest.TestCase):
    def test_what_is_looked_at(self):
        whole, one, other = Report(1, 5, 3, "3.0", "2.0"), Report(1, 5, 1, "3"), Report(1, 5, 2, "3.0")
        expected = [((3, 9), (6, 26))]
        self.assertEqual(split_pairs(whole, one, other), expected)
        # Neither the ends nor the middle of the whole are looked at,
        told = Report(1, 5, 3, "3.0", "2.0", "sample", 5, 5, "4")
        self.assertEqual(split_pairs(told, one, other), expected)
        # nor the middle of a group, but its ends and its spread are.
        self.assertEqual(split_pairs(whole, one, Report(1, 5, 2, "3.0", None, "sample", None, None, "1")), expected)
        self.assertEqual(split_pairs(whole, one, Report(1, 5, 2, "3.0", None, "sample", 1)), expected)
        self.assertEqual(split_pairs(whole, one, Report(1, 5, 2, "3.0", None, "sample", 2)), [])
        self.assertEqual(split_pairs(whole, Report(1, 5, 1, "3", None, "sample", None, 4), other), [])
        self.assertEqual(split_pairs(whole, one, Report(1, 5, 2, "3.0", "2.8")), expected)
        self.assertEqual(split_pairs(whole, one, Report(1, 5, 2, "3.0", "2.0")), [])
        self.assertEqual(split_pairs(whole, one, Report(1, 5, 2, "3.0", "2.0", "whole")), expected)
        self.assertEqual(split_pairs(Report(1, 5, 3, "3.0", "2.0", "whole"), one, other), [])
        self.assertEqual(split_pairs(Report(1, 5, 3, "3.0", "1.6", "whole"), one, other), expected)

    def test_order(self):
        whole, group = Report(-1, 1, 2, "0.0"), Report(-1, 1, 1, "0")
        self.assertEqual(split_pairs(whole, group, group), [((0, 0), (0, 0))])
        groups = Report(-1, 1, 4, "0.0"), Report(-1, 1, 2, "0")
        expected = [((-1, 1), (1, 1)), ((0, 0), (0, 0)), ((0, 0), (0, 2)), ((0, 2), (0, 0)), ((0, 2), (0, 2)),
                    ((1, 1), (-1, 1))]
        self.assertEqual(split_pairs(groups[0], groups[1], groups[1]), expected)

    def test_groups_that_cannot_be(self):
        whole = Report(1, 5, 3, "3.0")
        self.assertEqual(split_pairs(whole, Report(1, 5, 1, "3.5"), Report(1, 5, 2, "3")), [])
        self.assertEqual(split_pairs(whole, Report(1, 5, 2, "3"), Report(1, 5, 1, "3.5")), [])
        self.assertEqual(split_pairs(whole, Report(1, 5, 1, "3", None, "sample", 3, 4), Report(1, 5, 2, "3")), [])
        self.assertEqual(split_pairs(Report(1, 5, 3, "3.1"), Report(1, 5, 1, "3"), Report(1, 5, 2, "3")), [])

    def test_just_20_marks(self):
        whole, one, other = Report(0, 11, 20, "5.0", "2.0"), Report(0, 11, 9, "5.0"), Report(0, 11, 11, "5", "2.0")
        found = split_pairs(whole, one, other)
        self.assertGreater(len(found), 10)
        self.assertEqual(found, sorted(found))
        for first, second in found:
            self.assertTrue(oracle.gives(whole, first[0] + second[0], first[1] + second[1]))

    def test_errors(self):
        whole, one, other = Report(1, 5, 3, "3.0"), Report(1, 5, 1, "3"), Report(1, 5, 2, "3.0")
        for group in (Report(1, 6, 1, "3"), Report(0, 5, 1, "3"), Report(2, 6, 1, "3"), Report(1, 6, BIG, "3")):
            self.assertRaises(Unlike, split_pairs, whole, group, other)
            self.assertRaises(Unlike, split_pairs, whole, other, group)
            self.assertRaises(Unlike, split_pairs, whole, group, group)
            self.assertRaises(Unlike, split_pairs, Report(1, 5, 21, "3.0"), group, one)
            self.assertRaises(Unlike, split_pairs, Report(1, 5, 21, "3.0"), one, group)
        for size in (21, 40, 41, BIG):
            for groups in ((one, other), (Report(1, 5, size - 1, "3"), one), (one, Report(1, 5, BIG, "3"))):
                self.assertRaises(TooMany, split_pairs, Report(1, 5, size, "3.0"), *groups)
        for groups in ((one, one), (other, other), (whole, one), (one, Report(1, 5, BIG, "3")), (whole, whole)):
            self.assertRaises(BadSize, split_pairs, whole, *groups)
            self.assertRaises(BadSize, split_pairs, whole, *groups[::-1])

    def test_what_is_returned_is_new(self):
        facts = ((1, 5, 3, "3.0", "2.0"), (1, 5, 1, "3"), (1, 5, 2, "3.0"))
        reports = [Report(*row) for row in facts]
        found = split_pairs(*reports)
        self.assertEqual((type(found), type(found[0]), type(found[0][0]), type(found[0][1])), (list, *[tuple] * 3))
        found.append(1)
        self.assertEqual(split_pairs(*reports), found[:-1])
        self.assertEqual(reports, [Report(*row) for row in facts])


class RestTest(unittest.TestCase):
    def test_what_is_looked_at(self):
        whole, one = Report(1, 5, 3, "3.0", "2.0"), Report(1, 5, 1, "3")
        expected = [("3.0", "2.8")]
        self.assertEqual(rest_prints(whole, one, 1, 1), expected)
        told = Report(1, 5, 3, "3.0", "2.0", "sample", 5, 5, "4")
        self.assertEqual(rest_prints(told, one, 1, 1), expected)
        self.assertEqual(rest_prints(whole, Report(1, 5, 1, "3", None, "sample", None, None, "1"), 1, 1), expected)
        self.assertEqual(rest_prints(whole, Report(1, 5, 1, "3", None, "sample", None, 2), 1, 1), [])
        self.assertEqual(rest_prints(whole, Report(1, 5, 1, "3", "1", "whole"), 1, 1), [])
        self.assertEqual(rest_prints(whole, Report(1, 5, 1, "5"), 1, 1), [("2.0", "1.4")])

    def test_kind_of_the_whole(self):
        whole = Report(1, 5, 3, "3.0", "1.6", "whole")
        self.assertEqual(rest_prints(whole, Report(1, 5, 1, "3"), 0, 2), [("3", "2.00")])
        one = Report(1, 5, 2, "3.0", "2.8", "sample")
        self.assertEqual(rest_prints(whole, one, 2, 2), [("3.00", "0.00")])
        self.assertEqual(rest_prints(Report(1, 5, 3, "3.0", None, "whole"), one, 0, 0), [("3", "0")])

    def test_order_and_halves(self):
        # Beside the mark 0 there is a sum of 1: the marks 0 and 1 with the mean 0.5, and the spread 0.5.
        found = rest_prints(Report(-1, 2, 3, "0.33", None, "whole"), Report(-1, 2, 1, "0"), 0, 0)
        # Of -1 and 2 the spread is 1.5.
        self.assertEqual(found, [("0", "0"), ("0", "1"), ("0", "2"), ("1", "0"), ("1", "1"), ("1", "2")])
        found = rest_prints(Report(-2, 2, 3, "-0.33", None, "whole"), Report(-2, 2, 1, "0"), 1, 1)
        self.assertEqual(found, [("-0.5", "0.5"), ("-0.5", "1.5")])
        found = rest_prints(Report(-2, 2, 3, "0", None, "whole"), Report(-2, 2, 1, "0"), 1, 0)
        means = [row[0] for row in found]
        self.assertEqual(sorted(set(means), key=float), ["-0.5", "0.0", "0.5"])
        self.assertEqual(found, sorted(found, key=lambda row: (float(row[0]), float(row[1]))))

    def test_just_20_marks(self):
        for one, kind, found in ((Report(0, 1, 19, "0.37"), "whole", [("0", "0"), ("1", "0")]),
                                 (Report(0, 1, 18, "0.33"), "sample", [("0", "1"), ("1", "0"), ("1", "1")])):
            # Of 0 and 1 the spread of a sample is the root of a half.
            self.assertEqual(rest_prints(Report(0, 1, 20, "0.4", None, kind), one, 0, 0), found)
        found = rest_prints(Report(39, 50, 20, "45.0", "3.0"), Report(39, 50, 10, "45"), 2, 2)
        self.assertEqual(found, sorted(found))
        self.assertGreater(len(found), 100)

    def test_errors(self):
        whole = Report(1, 5, 3, "3.0")
        for group in (Report(1, 6, 1, "3"), Report(0, 5, 7, "3"), Report(1, 6, BIG, "3")):
            for each in (whole, Report(1, 5, 21, "3.0")):
                self.assertRaises(Unlike, rest_prints, each, group, 1, 1)
                self.assertRaises(Unlike, rest_prints, each, group, None, 7)
        for size in (21, 40, 41, BIG):
            for group in (Report(1, 5, 1, "3"), Report(1, 5, BIG, "3")):
                self.assertRaises(TooMany, rest_prints, Report(1, 5, size, "3.0"), group, 1, 1)
                self.assertRaises(TooMany, rest_prints, Report(1, 5, size, "3.0"), group, None, 7)
        for kind, sizes in (("sample", (2, 3, 4, 41, BIG)), ("whole", (3, 4, 41, BIG))):
            for size in sizes:
                for digits in (1, None, 5):
                    report = Report(1, 5, 3, "3.0", None, kind)
                    self.assertRaises(BadSize, rest_prints, report, Report(1, 5, size, "3"), digits, 1)
        for size in (1, 2):
            self.assertRaises(BadSize, rest_prints, Report(1, 5, 1, "3"), Report(1, 5, size, "3"), 1, 1)
        one = Report(1, 5, 1, "3")
        for value in (*oracle.ODD_VALUES, -1, 5, 10 ** 30, "0"):
            self.assertRaises(BadDigits, rest_prints, whole, one, value, 1)
            self.assertRaises(BadDigits, rest_prints, whole, one, 1, value)
            self.assertRaises(BadDigits, rest_prints, whole, one, value, value)
            # That of the mean comes first, but both are the same error.
            self.assertRaises(BadDigits, rest_prints, Report(1, 5, 3, "9"), one, 0, value)
        for digits in (0, 4):
            self.assertNotEqual(rest_prints(whole, one, digits, 4 - digits), [])

    def test_what_is_returned_is_new(self):
        whole, one = Report(1, 5, 3, "3.0", "2.0"), Report(1, 5, 1, "3")
        found = rest_prints(whole, one, 1, 1)
        self.assertEqual((type(found), type(found[0])), (list, tuple))
        found.append(1)
        self.assertEqual(rest_prints(whole, one, 1, 1), found[:-1])


if __name__ == "__main__":
    unittest.main()

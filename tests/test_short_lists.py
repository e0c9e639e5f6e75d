"""Points [4] and [8] to [13] for few marks, by all lists of the scale, one by one."""

import unittest
from fractions import Fraction
from math import isqrt
from random import Random

from meansinprint.changing import joined_prints, misprints, shared_sizes, without
from meansinprint.judging import pairs, sizes, verdict
from meansinprint.lists import all_lists, count_lists, first_list, fits, often, sure_marks
from meansinprint.reports import Report
from tests import oracle

# low, high and the greatest size.
SCALES = (
    (0, 1, 6), (1, 3, 6), (-2, 0, 5), (-1, 2, 4), (1, 5, 4), (48, 50, 3), (-50, -48, 3), (2, 7, 3), (1, 4, 6),
    (0, 9, 3), (-50, -39, 2), (-6, 5, 2),
)
REPORTS = 90


def a_print(number, source):
    """A print of a fraction, or one beside it, with some digits."""
    digits = source.choice((0, 1, 1, 2, 2, 4))
    return oracle.written(round(number * 10 ** digits) + source.choice((0, 0, 0, 0, 0, 0, 1, -1)), digits)


def a_spread(marks, total, kind, source):
    """A print of the spread that a sum of squares near that of a list would make, or None."""
    size = len(marks)
    if (size, kind) == (1, "sample") or source.randrange(4) == 0:
        return None
    squares = sum(mark * mark for mark in marks) + source.choice((0, 0, 0, 1, -1, 2, -2, 2, -2, 4, -4, 6))
    square = (squares - Fraction(total * total, size)) / (size - (kind == "sample"))
    return a_print(max(0, Fraction(isqrt(int(max(square, 0) * 10 ** 12)), 10 ** 6)), source).removeprefix("-")


def a_report(rows, low, high, source):
    """A report that one of the lists is, or nearly is."""
    marks = source.choice(rows)
    total = sum(marks) + source.choice((0, 0, 0, 0, 1, -1))
    kind = source.choice(("sample", "whole"))
    spread = a_spread(marks, total, kind, source)
    ends = source.choice((None, None, marks[0])), source.choice((None, None, marks[-1]))
    if source.randrange(4) == 0:
        ends = source.choice(oracle.end_choices(low, high))
    middle = source.choice((None, None, a_print(oracle.middle_of(marks), source)))
    return Report(low, high, len(marks), a_print(Fraction(total, len(marks)), source), spread, kind, *ends, middle)


def all_told(many=REPORTS):
    """Reports of all the scales, each with all lists of its scale and size; the same ones whenever they are told."""
    source = Random(5)
    for low, high, most in SCALES:
        for size in range(1, most + 1):
            rows = oracle.multisets(low, high, size)
            for _ in range(many):
                yield a_report(rows, low, high, source), rows


def expected_verdict(report, marks):
    """The verdict, by the lists that have the ends: what squares they have at each sum, and what lies between."""
    rows = [row for row in marks if oracle.ends_fit(report, row)]
    if any(oracle.fits_but_middle(report, row) for row in rows):
        return "good"
    sums = {}
    for row in rows:
        total, square = oracle.pair_of(row)
        if oracle.can_print(Fraction(total, report.size), report.mean):
            sums.setdefault(total, []).append(square)
    if not sums:
        return "mean"
    parts = report.size - (report.kind == "sample")
    for total, squares in sums.items():
        for square in range(min(squares), max(squares) + 1, 2):
            if oracle.can_root((square - Fraction(total * total, report.size)) / parts, report.spread):
                return "gap"
    return "spread"


def expected_often(report, rows):
    """How often each mark comes in the lists."""
    if not rows:
        return None
    marks = range(report.low, report.high + 1)
    return [(mark, min(row.count(mark) for row in rows), max(row.count(mark) for row in rows)) for mark in marks]


class ShortListsTest(unittest.TestCase):
    def check_judging(self, report, marks):
        """Compare pairs and verdict, and tell the verdict."""
        found = sorted({oracle.pair_of(row) for row in marks if oracle.fits_but_middle(report, row)})
        self.assertEqual(pairs(report), found, oracle.facts(report))
        expected = expected_verdict(report, marks)
        self.assertEqual(verdict(report), expected, oracle.facts(report))
        return expected

    def check_lists(self, report, rows):
        """Compare all that lists tells of the lists that fit."""
        facts = oracle.facts(report)
        self.assertEqual(all_lists(report), rows, facts)
        self.assertEqual(count_lists(report), len(rows), facts)
        self.assertEqual(first_list(report), rows[0] if rows else None, facts)
        found = expected_often(report, rows)
        self.assertEqual(often(report), found, facts)
        self.assertEqual(sure_marks(report), None if not rows else [mark for mark, few, _ in found if few], facts)

    def check_without(self, report, rows, digits):
        """Compare without for all marks."""
        if report.size > 1:
            for mark in range(report.low, report.high + 1):
                means = [Fraction(sum(row) - mark, report.size - 1) for row in rows if mark in row]
                expected = oracle.prints_of(means, digits)
                self.assertEqual(without(report, mark, digits), expected, (oracle.facts(report), mark, digits))

    def test_all(self):
        seen, at = {}, 0
        for report, marks in all_told():
            at += 1
            rows = [row for row in marks if oracle.fits(report, row)]
            found = self.check_judging(report, marks)
            self.check_lists(report, rows)
            for row in marks:
                self.assertIs(fits(report, list(row[::-1])), row in rows, (oracle.facts(report), row))
            self.check_without(report, rows, at % 5)
            seen[found, rows != []] = seen.get((found, rows != []), 0) + 1
        # The reports are such that much is told apart: each verdict often, good ones with a middle that fits or not.
        self.assertGreater(min(seen.values()), 20, seen)
        self.assertEqual(len(seen), 5)

    def test_sizes(self):
        most = 5
        for report, _ in all_told(15):
            found = []
            facts = oracle.facts(report)
            for size in range(2 if report.spread is not None and report.kind == "sample" else 1, most + 1):
                other = Report(*facts[:2], size, *facts[3:])
                if any(oracle.fits_but_middle(other, row) for row in oracle.multisets(*facts[:2], size)):
                    found.append(size)
            self.assertEqual(sizes(report, most), found, facts)
            more = Report(*facts[:2], 3, report.mean, None, report.kind, report.least)
            shared = [size for size in sizes(more, most) if size in found]
            self.assertEqual(shared_sizes([report, more], most), shared, facts)
            self.assertEqual(shared_sizes((more, report, more), most), shared, facts)

    def test_joined_prints(self):
        told = list(all_told(20))
        for at, (one, rows) in enumerate(told):
            other, more = told[at - 27]
            if (one.low, one.high) == (other.low, other.high):
                sums = [fitting_sums(one, rows), fitting_sums(other, more)]
                many = one.size + other.size
                means = [Fraction(first + second, many) for first in sums[0] for second in sums[1]]
                found = joined_prints(one, other, at % 5)
                self.assertEqual(found, oracle.prints_of(means, at % 5), (oracle.facts(one), oracle.facts(other)))

    def test_misprints(self):
        for report, rows in all_told(15):
            if sum(letter.isdigit() for letter in report.mean) > 3:
                continue
            means = {Fraction(sum(row), report.size) for row in rows if oracle.ends_fit(report, row)}
            printed = oracle.prints_of(means, oracle.digits_of(report.mean))
            found = {}
            for text in printed:
                if same_form(text, report.mean):
                    many = sum(one != other for one, other in zip(text, report.mean))
                    found.setdefault(many, []).append(text)
            expected = (min(found), sorted(found[min(found)])) if found else None
            self.assertEqual(misprints(report), expected, oracle.facts(report))


def fitting_sums(report, rows):
    """The sums of the lists that fit scale, size, ends and mean."""
    sums = {sum(row) for row in rows if oracle.ends_fit(report, row)}
    return [total for total in sums if oracle.can_print(Fraction(total, report.size), report.mean)]


def same_form(one, other):
    """Whether two prints differ by figures alone."""
    return [letter.isdigit() or letter for letter in one] == [letter.isdigit() or letter for letter in other]


if __name__ == "__main__":
    unittest.main()

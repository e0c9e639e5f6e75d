"""Points [4] and [8] to [13] for few marks, by all lists of the scale, one by one."""

import unittest
from fractions import Fraction

from meansinprint.changing import joined_prints, misprints, shared_sizes, without
from meansinprint.judging import pairs, sizes, verdict
from meansinprint.lists import all_lists, count_lists, first_list, fits, often, sure_marks
from meansinprint.reports import Report
from tests import oracle
from tests.short_reports import all_told


def expected_verdict(report, marks):
    """The verdict, by the lists that have the ends: what squares they have at each sum, and what lies between."""
    rows = [row for row in marks if oracle.ends_fit(report, row)]
    if any(oracle.fits_but_middle(report, row) for row in rows):
        return "good"
    sums = {}
    for row in rows:
        total, square = oracle.pair_of(row)
        if oracle.can_print(Fraction(total, report.size), report.mean):
            sums.setdefault(total, []).append(square)
    if not sums:
        return "mean"
    parts = report.size - (report.kind == "sample")
    for total, squares in sums.items():
        for square in range(min(squares), max(squares) + 1, 2):
            if oracle.can_root((square - Fraction(total * total, report.size)) / parts, report.spread):
                return "gap"
    return "spread"


def expected_often(report, rows):
    """How often each mark comes in the lists."""
    if not rows:
        return None
    marks = range(report.low, report.high + 1)
    return [(mark, min(row.count(mark) for row in rows), max(row.count(mark) for row in rows)) for mark in marks]


class ShortListsTest(unittest.TestCase):
    def check_judging(self, report, marks):
        """Compare pairs and verdict, and tell the verdict."""
        found = sorted({oracle.pair_of(row) for row in marks if oracle.fits_but_middle(report, row)})
        self.assertEqual(pairs(report), found, oracle.facts(report))
        expected = expected_verdict(report, marks)
        self.assertEqual(verdict(report), expected, oracle.facts(report))
        return expected

    def check_lists(self, report, rows):
        """Compare all that lists tells of the lists that fit."""
        facts = oracle.facts(report)
        self.assertEqual(all_lists(report), rows, facts)
        self.assertEqual(count_lists(report), len(rows), facts)
        self.assertEqual(first_list(report), rows[0] if rows else None, facts)
        found = expected_often(report, rows)
        self.assertEqual(often(report), found, facts)
        self.assertEqual(sure_marks(report), None if not rows else [mark for mark, few, _ in found if few], facts)

    def check_without(self, report, rows, digits):
        """Compare without for all marks."""
        if report.size > 1:
            for mark in range(report.low, report.high + 1):
                means = [Fraction(sum(row) - mark, report.size - 1) for row in rows if mark in row]
                expected = oracle.prints_of(means, digits)
                self.assertEqual(without(report, mark, digits), expected, (oracle.facts(report), mark, digits))

    def test_all(self):
        seen, at = {}, 0
        for report, marks in all_told():
            at += 1
            rows = [row for row in marks if oracle.fits(report, row)]
            found = self.check_judging(report, marks)
            self.check_lists(report, rows)
            for row in marks:
                self.assertIs(fits(report, list(row[::-1])), row in rows, (oracle.facts(report), row))
            self.check_without(report, rows, at % 5)
            seen[found, rows != []] = seen.get((found, rows != []), 0) + 1
        # The reports are such that much is told apart: each verdict often, good ones with a middle that fits or not.
        self.assertGreater(min(seen.values()), 20, seen)
        self.assertEqual(len(seen), 5)

    def test_sizes(self):
        most = 5
        for report, _ in all_told(15):
            found = []
            facts = oracle.facts(report)
            for size in range(2 if report.spread is not None and report.kind == "sample" else 1, most + 1):
                other = Report(*facts[:2], size, *facts[3:])
                if any(oracle.fits_but_middle(other, row) for row in oracle.multisets(*facts[:2], size)):
                    found.append(size)
            self.assertEqual(sizes(report, most), found, facts)
            more = Report(*facts[:2], 3, report.mean, None, report.kind, report.least)
            shared = [size for size in sizes(more, most) if size in found]
            self.assertEqual(shared_sizes([report, more], most), shared, facts)
            self.assertEqual(shared_sizes((more, report, more), most), shared, facts)

    def test_joined_prints(self):
        told = list(all_told(20))
        for at, (one, rows) in enumerate(told):
            other, more = told[at - 27]
            if (one.low, one.high) == (other.low, other.high):
                sums = [fitting_sums(one, rows), fitting_sums(other, more)]
                many = one.size + other.size
                means = [Fraction(first + second, many) for first in sums[0] for second in sums[1]]
                found = joined_prints(one, other, at % 5)
                self.assertEqual(found, oracle.prints_of(means, at % 5), (oracle.facts(one), oracle.facts(other)))

    def test_misprints(self):
        for report, rows in all_told(15):
            if sum(letter.isdigit() for letter in report.mean) > 3:
                continue
            means = {Fraction(sum(row), report.size) for row in rows if oracle.ends_fit(report, row)}
            printed = oracle.prints_of(means, oracle.digits_of(report.mean))
            found = {}
            for text in printed:
                if same_form(text, report.mean):
                    many = sum(one != other for one, other in zip(text, report.mean))
                    found.setdefault(many, []).append(text)
            expected = (min(found), sorted(found[min(found)])) if found else None
            self.assertEqual(misprints(report), expected, oracle.facts(report))


def fitting_sums(report, rows):
    """The sums of the lists that fit scale, size, ends and mean."""
    sums = {sum(row) for row in rows if oracle.ends_fit(report, row)}
    return [total for total in sums if oracle.can_print(Fraction(total, report.size), report.mean)]


def same_form(one, other):
    """Whether two prints differ by figures alone."""
    return [letter.isdigit() or letter for letter in one] == [letter.isdigit() or letter for letter in other]


if __name__ == "__main__":
    unittest.main()

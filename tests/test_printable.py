"""Point [20]: all prints of mean and spread, and the nearest ones, against all lists."""

import unittest
from random import Random

from meansinprint.errors import BadDigits, BadKind, BadPrint, TooMany
from meansinprint.printable import nearest_prints, print_pairs
from meansinprint.reports import Report
from tests import oracle
from tests.short_reports import SCALES

BIG = 10 ** 6


def figures_of(text):
    """The text with each figure as a 0: what must be alike."""
    return "".join("0" if letter.isdigit() else letter for letter in text)


def nearest(found, mean, spread):
    """What nearest_prints returns, by all the prints that there are with as many digits."""
    rows = {}
    for row in found:
        if (figures_of(row[0]), figures_of(row[1])) == (figures_of(mean), figures_of(spread)):
            many = sum(one != other for one, other in zip("".join(row), mean + spread))
            rows.setdefault(many, []).append(row)
    return (min(rows), rows[min(rows)]) if rows else None


def changed(text, source):
    """The print with some figures changed, if it is still one."""
    found = "".join(source.choice("0123456789") if letter.isdigit() and source.randrange(3) == 0 else letter
                    for letter in text)
    return found if oracle.is_print(found) else text


class ShortListsTest(unittest.TestCase):
    def rows(self):
        """Ends and kinds with all lists that have them: (low, high, size, kind, least, greatest, lists)."""
        source = Random(20)
        for low, high, most in SCALES:
            for size in range(1, most + 1):
                marks = oracle.multisets(low, high, size)
                choices = oracle.end_choices(low, high)
                for least, greatest in ((None, None), *source.choices(choices, k=8)):
                    kind = source.choice(("sample", "whole")) if size > 1 else "whole"
                    report = Report(low, high, size, "0", None, kind, least, greatest)
                    yield report, [row for row in marks if oracle.ends_fit(report, row)]

    def test_print_pairs(self):
        for at, (report, rows) in enumerate(self.rows()):
            digits, more = at % 5, at // 5 % 5
            expected = oracle.two_prints(rows, report.kind, digits, more)
            facts = (oracle.facts(report), digits, more)
            self.assertEqual(print_pairs(report, digits, more), expected, facts)

    def test_nearest_prints(self):
        source, seen = Random(21), {}
        for report, rows in self.rows():
            for digits, more in ((0, 0), (1, 1), (source.randrange(5), source.randrange(5))):
                found = oracle.two_prints(rows, report.kind, digits, more)
                mean, spread = source.choice(found) if found else ("0", "0")
                if source.randrange(8) == 0:
                    mean, spread = source.choice((("12", "3"), ("-1.5", "1.5"), ("1.5", "12.5"), ("0.0", "0")))
                mean, spread = changed(mean, source), changed(spread, source)
                told = Report(report.low, report.high, report.size, mean, spread, report.kind, report.least,
                              report.greatest, source.choice((None, "0")))
                found = oracle.two_prints(rows, report.kind, oracle.digits_of(mean), oracle.digits_of(spread))
                expected = nearest(found, mean, spread)
                self.assertEqual(nearest_prints(told), expected, oracle.facts(told))
                many = None if expected is None else min(expected[0], 4)
                seen[many] = seen.get(many, 0) + 1
        self.assertEqual(set(seen), {None, 0, 1, 2, 3, 4})
        self.assertGreater(min(seen.values()), 10, seen)

    def test_seven_marks(self):
        rows = oracle.multisets(1, 5, 7)
        for kind in ("sample", "whole"):
            for digits, more in ((2, 2), (0, 1), (4, 3)):
                expected = oracle.two_prints(rows, kind, digits, more)
                self.assertEqual(print_pairs(Report(1, 5, 7, "9", None, kind), digits, more), expected)
            found = oracle.two_prints(rows, kind, 2, 2)
            for mean, spread in (("3.14", "1.57"), ("3.00", "1.29"), ("9.99", "9.99"), ("2.86", "0.38")):
                report = Report(1, 5, 7, mean, spread, kind)
                self.assertEqual(nearest_prints(report), nearest(found, mean, spread))


class PrintPairsTest(unittest.TestCase):
    def test_what_is_looked_at(self):
        expected = print_pairs(Report(1, 3, 2, "0"), 1, 1)
        for facts in (("9", "9"), ("2.0", "0.7", "sample", None, None, "7"), ("1.5", "0")):
            self.assertEqual(print_pairs(Report(1, 3, 2, *facts), 1, 1), expected)
        self.assertEqual(print_pairs(Report(1, 3, 2, "0", None, "sample", 1), 1, 1),
                         [("1.0", "0.0"), ("1.5", "0.7"), ("2.0", "1.4")])
        self.assertEqual(print_pairs(Report(1, 3, 2, "0", None, "sample", 1, 3), 1, 1), [("2.0", "1.4")])
        self.assertEqual(print_pairs(Report(1, 3, 2, "0", None, "whole", 1, 3), 1, 1), [("2.0", "1.0")])
        self.assertEqual(print_pairs(Report(1, 3, 2, "0", None, "whole", 2, 2), 4, 4), [("2.0000", "0.0000")])

    def test_halves(self):
        # Of 0 and 1 the mean is 0.5, and so is the spread.
        found = print_pairs(Report(0, 1, 2, "0", None, "whole", 0, 1), 0, 0)
        self.assertEqual(found, [("0", "0"), ("0", "1"), ("1", "0"), ("1", "1")])
        found = print_pairs(Report(-1, 0, 2, "0", None, "whole", -1, 0), 0, 1)
        self.assertEqual(found, [("-1", "0.5"), ("0", "0.5")])
        # Of 0, 0, 0 and 1 the mean is 0.25 and the spread of a sample 0.5.
        report = Report(0, 1, 4, "0", None, "sample", 0, 1)
        self.assertEqual(print_pairs(report, 1, 0)[:4], [("0.2", "0"), ("0.2", "1"), ("0.3", "0"), ("0.3", "1")])

    def test_one_mark(self):
        self.assertEqual(print_pairs(Report(-1, 1, 1, "0", None, "whole"), 0, 0), [("-1", "0"), ("0", "0"), ("1", "0")])
        self.assertEqual(print_pairs(Report(-1, 1, 1, "0", None, "whole", 0), 0, 1), [("0", "0.0")])
        self.assertEqual(print_pairs(Report(-1, 1, 1, "0", None, "whole", 0, 1), 0, 0), [])
        self.assertEqual(print_pairs(Report(-1, 1, 1, "0", None, "whole", 1, 1), 0, 0), [("1", "0")])
        self.assertIsNone(nearest_prints(Report(-1, 1, 1, "0", "0", "whole", 0, 1)))
        self.assertEqual(nearest_prints(Report(-1, 1, 1, "0", "3", "whole")), (1, [("0", "0")]))
        self.assertEqual(nearest_prints(Report(-1, 1, 1, "-7", "0", "whole")), (1, [("-1", "0")]))

    def test_just_12_marks(self):
        found = print_pairs(Report(39, 50, 12, "0"), 2, 2)
        self.assertGreater(len(found), 1000)
        self.assertEqual((found[0], found[-1]), (("39.00", "0.00"), ("50.00", "0.00")))
        self.assertEqual(found, sorted(found))
        self.assertIn(("44.50", "5.74"), found)
        expected = nearest(found, "44.50", "5.94")
        self.assertEqual(nearest_prints(Report(39, 50, 12, "44.50", "5.94")), expected)
        self.assertEqual((expected[0], expected[1][-1]), (1, ("44.50", "5.74")))

    def test_what_is_returned_is_new(self):
        report = Report(1, 3, 2, "0")
        found = print_pairs(report, 1, 1)
        self.assertEqual((type(found), type(found[0])), (list, tuple))
        found.append(1)
        self.assertEqual(print_pairs(report, 1, 1), found[:-1])


class NearestTest(unittest.TestCase):
    def test_figures_are_counted_together(self):
        # Both means of two marks beside 1.6 are one figure away, but of these only some have that spread.
        self.assertEqual(nearest_prints(Report(1, 3, 2, "1.5", "0.7")), (0, [("1.5", "0.7")]))
        self.assertEqual(nearest_prints(Report(1, 3, 2, "1.6", "0.7")), (1, [("1.5", "0.7")]))
        self.assertEqual(nearest_prints(Report(1, 3, 2, "2.5", "1.4")), (1, [("2.0", "1.4")]))
        self.assertEqual(nearest_prints(Report(1, 3, 2, "9.9", "9.9")), (4, print_pairs(Report(1, 3, 2, "0"), 1, 1)))

    def test_sign_point_and_lengths_stay(self):
        self.assertIsNone(nearest_prints(Report(1, 3, 2, "-1.5", "0.7")))
        self.assertIsNone(nearest_prints(Report(-3, -1, 2, "1.5", "0.7")))
        self.assertIsNone(nearest_prints(Report(1, 3, 2, "15", "0.7")))
        self.assertIsNone(nearest_prints(Report(1, 3, 2, "1.5", "10.7")))
        self.assertIsNone(nearest_prints(Report(1, 3, 2, "1000.5", "0.7")))
        self.assertEqual(nearest_prints(Report(1, 3, 2, "2", "7")), (1, [("2", "0"), ("2", "1")]))
        self.assertEqual(nearest_prints(Report(-1, 1, 2, "-0.6", "0.7")), (1, [("-0.5", "0.7")]))
        self.assertEqual(nearest_prints(Report(0, 11, 2, "12", "0")), (1, [("10", "0"), ("11", "0")]))
        # A mean of 0 has no sign, so -0.5 and -1.0 are all that is left here.
        self.assertEqual(nearest_prints(Report(-1, 1, 2, "-0.9", "0.9"))[0], 2)
        self.assertEqual(nearest_prints(Report(-1, 1, 2, "-0.9", "0.0")), (2, [("-1.0", "0.0"), ("-0.5", "0.7")]))

    def test_figures_before_the_point(self):
        self.assertEqual(nearest_prints(Report(9, 11, 2, "9.6", "0.7")), (1, [("9.5", "0.7")]))
        self.assertEqual(nearest_prints(Report(9, 11, 2, "11.5", "0.7")), (1, [("10.5", "0.7")]))

    def test_middle_is_not_looked_at(self):
        expected = nearest_prints(Report(1, 3, 2, "1.6", "0.8"))
        self.assertEqual(nearest_prints(Report(1, 3, 2, "1.6", "0.8", "sample", None, None, "9")), expected)

    def test_what_is_returned_is_new(self):
        facts = (1, 3, 2, "1.6", "0.8")
        report = Report(*facts)
        found = nearest_prints(report)
        self.assertEqual((type(found), type(found[1]), type(found[1][0])), (tuple, list, tuple))
        found[1].append(1)
        self.assertEqual(nearest_prints(report), (2, [("1.0", "0.0"), ("1.5", "0.7")]))
        self.assertEqual(oracle.facts(report), oracle.facts(Report(*facts)))


class ErrorsTest(unittest.TestCase):
    def test_too_many(self):
        for size in (13, 40, 41, BIG):
            for facts in (("2", "1"), ("2",), ("2", None, "whole"), ("9", "9", "whole", 2, 2)):
                report = Report(1, 3, size, *facts)
                for digits in ((1, 1), (None, 1), (1, 5), (True, False)):
                    self.assertRaises(TooMany, print_pairs, report, *digits)
                self.assertRaises(TooMany, nearest_prints, report)

    def test_bad_kind(self):
        for facts in (("2",), ("2", None, "sample", 1, 3), ("9",)):
            report = Report(1, 3, 1, *facts)
            for digits in ((1, 1), (None, 1), (1, 5), (True, False)):
                self.assertRaises(BadKind, print_pairs, report, *digits)
            # There is no spread to be told here, either.
            self.assertRaises(BadKind, nearest_prints, report)

    def test_bad_digits(self):
        for report in (Report(1, 3, 2, "2"), Report(1, 3, 1, "2", None, "whole", 1, 2)):
            for value in (*oracle.ODD_VALUES, -1, 5, 10 ** 30, "0"):
                self.assertRaises(BadDigits, print_pairs, report, value, 1)
                self.assertRaises(BadDigits, print_pairs, report, 1, value)
                self.assertRaises(BadDigits, print_pairs, report, value, value)
        for digits in ((0, 4), (4, 0)):
            self.assertEqual(len(print_pairs(Report(1, 3, 2, "2", None, "sample", 2, 2), *digits)), 1)

    def test_bad_print(self):
        for facts in ((2, "2"), (2, "2", None, "whole"), (12, "9"), (1, "2", None, "whole", 1, 3)):
            with self.assertRaises(BadPrint) as caught:
                nearest_prints(Report(1, 3, *facts))
            self.assertEqual(caught.exception.fact, "spread")
        self.assertRaises(TooMany, nearest_prints, Report(1, 3, 13, "2"))
        self.assertRaises(BadKind, nearest_prints, Report(1, 3, 1, "2"))


if __name__ == "__main__":
    unittest.main()

"""Points [12] and [13]: without, joined_prints, shared_sizes and misprints."""

import unittest
from fractions import Fraction
from itertools import product
from random import Random

from meansinprint.changing import joined_prints, misprints, shared_sizes, without
from meansinprint.errors import BadDigits, BadMark, BadMost, BadReports, TooMany, Unlike
from meansinprint.judging import sizes
from meansinprint.prints import is_print
from meansinprint.reports import Report
from meansinprint.sums import can_mean
from tests import oracle

BIG = 10 ** 6
PLAIN = (1, 5, 3, "3.0", None, "sample", None, None, "3")
WRONG_DIGITS = (-1, 5, 10 ** 400, -10 ** 400, "1", [1], (1,), {1: 1}, *oracle.ODD_VALUES)


class RefusingTest(unittest.TestCase):
    def refuse(self, error, function, *values):
        """Expect just this error."""
        with self.subTest(repr(values)[:200]), self.assertRaises(error) as caught:
            function(*values)
        self.assertIs(type(caught.exception), error)


class WithoutTest(RefusingTest):
    def test_digits(self):
        # The others are 4, 5 or 4, 4 or 3, 5 or such: of 1, 2, 5 and 1, 3, 5 the mean without 1 is 3.5 and 4.
        report = Report(1, 5, 3, "3")
        found = (
            ["3", "4", "5"], ["3.5", "4.0", "4.5"], ["3.50", "4.00", "4.50"], ["3.500", "4.000", "4.500"],
            ["3.5000", "4.0000", "4.5000"],
        )
        for digits in range(5):
            self.assertEqual(without(report, 1, digits), found[digits])

    def test_half_way(self):
        # Once 1 beside seven times 0, if one more 0 is taken out: 0.125.
        report = Report(0, 1, 9, "0.11")
        self.assertEqual(without(report, 0, 2), ["0.12", "0.13"])
        self.assertEqual(without(report, 0, 3), ["0.125"])
        self.assertEqual(without(report, 0, 1), ["0.1"])
        self.assertEqual(without(report, 1, 1), ["0.0"])
        self.assertEqual(without(report, 1, 0), ["0"])

    def test_below_zero(self):
        report = Report(-5, 5, 2, "0")
        found = ["-5", "-4", "-3", "-2", "-1", "0", "1", "2", "3", "4", "5"]
        self.assertEqual(without(Report(-5, 5, 2, "-5"), -5, 0), ["-5", "-4"])
        self.assertEqual(without(report, 0, 1), ["-1.0", "0.0", "1.0"])
        self.assertEqual([without(report, mark, 0)[1:2] for mark in (-4, 4)], [["4"], ["-4"]])
        self.assertEqual(sorted({text for mark in range(-5, 6) for text in without(report, mark, 0)}, key=int), found)
        # -1 / 3 and -1 / 2: nothing is printed as 0 with a minus.
        self.assertEqual(without(Report(-1, 0, 4, "-0.25"), 0, 0), ["0"])
        self.assertEqual(without(Report(-1, 0, 3, "-0.33"), 0, 0), ["-1", "0"])
        self.assertEqual(without(Report(-1, 0, 3, "-0.33"), 0, 1), ["-0.5"])
        self.assertEqual(without(Report(-2, 2, 3, "0.0", None, "sample", -2, 2), 0, 1), ["0.0"])

    def test_no_list_has_it(self):
        self.assertEqual(without(Report(1, 5, 3, "3.0", "2.0"), 2, 1), [])
        self.assertEqual(without(Report(1, 5, 3, "3.1"), 3, 1), [])
        self.assertEqual(without(Report(1, 5, 3, "1.0"), 5, 1), [])

    def test_all_that_is_told_counts(self):
        self.assertEqual(without(Report(1, 5, 3, "3.0", "2.0"), 3, 1), ["3.0"])
        self.assertEqual(without(Report(1, 5, 4, "3.0", "2.3"), 1, 2), ["3.67"])
        self.assertEqual(without(Report(1, 5, 3, "3", None, "sample", None, None, "2"), 2, 1), ["3.0", "3.5"])
        self.assertEqual(without(Report(1, 5, 3, "3", None, "sample", None, None, "2"), 4, 1), ["2.0"])
        self.assertEqual(without(Report(1, 5, 3, "3", None, "sample", 1, 5), 1, 1), ["3.5", "4.0", "4.5"])

    def test_bad_mark(self):
        near = (0, 6, -1, 10 ** 400, "3", [3], (3,), {3: 3})
        for mark in (*near, *oracle.ODD_VALUES):
            self.refuse(BadMark, without, Report(1, 5, 3, "3.0"), mark, 1)
        for mark in (True, False):
            self.refuse(BadMark, without, Report(0, 1, 3, "1"), mark, 1)
        for mark in (0, 3, 5, None):
            self.refuse(BadMark, without, Report(1, 5, 1, "3"), mark, 1)

    def test_bad_digits(self):
        for digits in WRONG_DIGITS:
            self.refuse(BadDigits, without, Report(1, 5, 3, "3.0"), 3, digits)
            self.refuse(BadDigits, without, Report(1, 5, 3, "3.1"), 3, digits)

    def test_order_of_errors(self):
        many = Report(0, 1, 20000, "0.0000")
        self.refuse(BadMark, without, many, 2, 5)
        self.refuse(BadMark, without, many, True, 1)
        self.refuse(BadDigits, without, many, 1, True)
        self.refuse(TooMany, without, many, 1, 1)
        self.refuse(BadMark, without, Report(1, 5, 1, "3"), 3, 5)
        self.refuse(TooMany, without, Report(0, 11, 7, "5", None, "sample", 5, 5), 3, 4)

    def test_just_20000_lists(self):
        self.assertEqual(without(Report(0, 1, 19999, "0.0000"), 0, 4), ["0.0000"])
        self.assertEqual(without(Report(0, 1, 19999, "0.0001"), 1, 4), ["0.0000", "0.0001"])

    def test_each_list_is_new(self):
        report = Report(*PLAIN)
        without(report, 3, 1).append("7")
        self.assertEqual(without(report, 3, 1), ["3.0"])
        self.assertEqual(oracle.facts(report), PLAIN)


class JoinedPrintsTest(RefusingTest):
    def test_plain(self):
        one, other = Report(1, 5, 3, "3.0"), Report(1, 5, 2, "4.5")
        self.assertEqual([joined_prints(one, other, digits) for digits in range(5)],
                         [["4"], ["3.6"], ["3.60"], ["3.600"], ["3.6000"]])
        self.assertEqual(joined_prints(other, one, 1), ["3.6"])
        self.assertEqual(joined_prints(one, one, 1), ["3.0"])

    def test_half_way(self):
        one, other = Report(1, 5, 1, "3"), Report(1, 5, 1, "4")
        self.assertEqual(joined_prints(one, other, 0), ["3", "4"])
        self.assertEqual(joined_prints(one, other, 1), ["3.5"])
        # 1 / 8 is half way between two prints with 2 digits, 1 / 32 with 4.
        self.assertEqual(joined_prints(Report(0, 1, 7, "0.0"), Report(0, 1, 1, "1"), 2), ["0.12", "0.13"])
        self.assertEqual(joined_prints(Report(0, 1, 31, "0.00"), Report(0, 1, 1, "1"), 4), ["0.0312", "0.0313"])

    def test_all_sums(self):
        one, other = Report(1, 5, 3, "3"), Report(1, 5, 2, "3")
        self.assertEqual(joined_prints(one, other, 1), ["2.6", "2.8", "3.0", "3.2", "3.4"])
        self.assertEqual(joined_prints(one, other, 0), ["3"])

    def test_below_zero(self):
        one, other = Report(-3, 3, 3, "0"), Report(-3, 3, 1, "-1")
        self.assertEqual(joined_prints(one, other, 1), ["-0.5", "-0.3", "-0.2", "0.0"])
        self.assertEqual(joined_prints(one, other, 2), ["-0.50", "-0.25", "0.00"])
        self.assertEqual(joined_prints(one, other, 0), ["-1", "0"])

    def test_what_is_not_looked_at(self):
        # The sums go by scale, size, ends and mean alone.
        one = Report(1, 5, 3, "3.0", "9", "sample", None, None, "-4")
        self.assertEqual(joined_prints(one, Report(1, 5, 2, "4.5", "0", "whole"), 2), ["3.60"])
        self.assertEqual(joined_prints(Report(1, 5, 3, "4", None, "sample", 1), Report(1, 5, 1, "1"), 1), ["3.0"])

    def test_no_sums(self):
        good, bad = Report(1, 5, 3, "3.0"), Report(1, 5, 3, "3.1")
        for one, other in ((good, bad), (bad, good), (bad, bad), (good, Report(1, 5, 1, "3", None, "sample", 3, 4))):
            self.assertEqual(joined_prints(one, other, 1), [])

    def test_unlike(self):
        one = Report(1, 5, 3, "3.0")
        for low, high in ((1, 6), (0, 5), (0, 4), (2, 5), (-5, -1)):
            self.refuse(Unlike, joined_prints, one, Report(low, high, 3, "3.0"), 1)
            self.refuse(Unlike, joined_prints, Report(low, high, 3, "3.0"), one, 1)

    def test_bad_digits(self):
        for digits in WRONG_DIGITS:
            for mean in ("3.0", "3.1"):
                self.refuse(BadDigits, joined_prints, Report(1, 5, 3, mean), Report(1, 5, 2, "4.5"), digits)

    def test_a_thousand_marks(self):
        for one, other in ((1, 999), (500, 500), (999, 1)):
            # The sums are from half of the first ones on, and all of the others.
            parts = [Fraction(total + other, 1000) for total in range((one + 1) // 2, one + 1)]
            found = joined_prints(Report(0, 1, one, "1"), Report(0, 1, other, "1.0000"), 4)
            self.assertEqual(found, oracle.prints_of(parts, 4))
        self.assertEqual(joined_prints(Report(0, 1, 999, "0.000"), Report(0, 1, 1, "1"), 3), ["0.001"])
        self.assertEqual(joined_prints(Report(39, 50, 500, "50.0000"), Report(39, 50, 500, "50.0000"), 1), ["50.0"])
        for one, other in ((1, 1000), (500, 501), (501, 500), (1000, 1), (BIG, BIG), (1, BIG)):
            self.refuse(TooMany, joined_prints, Report(0, 1, one, "1"), Report(0, 1, other, "1"), 1)
            self.refuse(TooMany, joined_prints, Report(0, 1, one, "7"), Report(0, 1, other, "1"), 1)

    def test_many_sums(self):
        one, other = Report(0, 11, 400, "5"), Report(0, 11, 377, "6")
        parts = [Fraction(total, 777) for total in range(1800 + 2074, 2200 + 2450 + 1)]
        for digits in range(5):
            self.assertEqual(joined_prints(one, other, digits), oracle.prints_of(parts, digits))

    def test_order_of_errors(self):
        many, more, unlike = Report(0, 1, 600, "1"), Report(0, 1, 600, "7"), Report(0, 2, 600, "1")
        self.refuse(Unlike, joined_prints, many, unlike, 7)
        self.refuse(Unlike, joined_prints, many, unlike, 1)
        self.refuse(Unlike, joined_prints, unlike, more, True)
        self.refuse(BadDigits, joined_prints, many, many, 7)
        self.refuse(BadDigits, joined_prints, more, many, True)
        self.refuse(TooMany, joined_prints, more, many, 1)

    def test_each_list_is_new(self):
        one, other = Report(*PLAIN), Report(1, 5, 2, "4.5")
        joined_prints(one, other, 1).append("7")
        self.assertEqual(joined_prints(one, other, 1), ["3.6"])
        self.assertEqual(oracle.facts(one), PLAIN)


class SharedSizesTest(RefusingTest):
    def test_each_of_them(self):
        rows = [Report(1, 5, 1, "3.47"), Report(1, 5, BIG, "2.53"), Report(0, 9, 2, "3.33", "2.0")]
        for many in range(1, 4):
            for most in (1, 15, 40):
                found = [size for size in range(1, most + 1) if all(size in sizes(row, most) for row in rows[:many])]
                self.assertEqual(shared_sizes(rows[:many], most), found)
                self.assertEqual(shared_sizes(tuple(rows[:many]), most), found)
        self.assertEqual(shared_sizes(rows[:2], 20), [15, 17, 19])
        self.assertEqual(shared_sizes([rows[0], Report(1, 5, 1, "3.50")], 20), [])
        self.assertEqual(shared_sizes([Report(1, 5, 3, "3.0", "1.41")], 4), [2, 4])
        self.assertEqual(shared_sizes([Report(1, 5, 3, "3.0", "1.41"), Report(7, 9, 8, "7.5")], 4), [2, 4])

    def test_unlike_scales(self):
        # So few marks have the mean 3.500 just by even numbers of them.
        found = [size for size in range(2, 41, 2) if can_mean(Report(-50, -39, size, "-44.33"))]
        self.assertEqual(shared_sizes((Report(1, 5, 1, "3.500"), Report(-50, -39, 1, "-44.33")), 40), found)
        self.assertEqual(found[:3], [6, 12, 18])

    def test_one_mark(self):
        told, plain = Report(1, 5, 2, "3", "0"), Report(1, 5, 2, "3", "0", "whole")
        self.assertEqual(shared_sizes([plain], 2), [1, 2])
        self.assertEqual(shared_sizes([plain, told], 2), [2])
        self.assertEqual(shared_sizes([told, plain], 2), [2])

    def test_numbers_of_reports(self):
        report = Report(1, 5, 3, "3.0", "1.41")
        self.assertEqual(shared_sizes([report], 4), [2, 4])
        self.assertEqual(shared_sizes([report] * 20, 4), [2, 4])
        self.assertEqual(shared_sizes((report,) * 20, 40), sizes(report, 40))
        for value in ([], (), [report] * 21, (report,) * 21, [report] * 1000):
            self.refuse(BadReports, shared_sizes, value, 4)

    def test_bad_reports(self):
        report = Report(1, 5, 3, "3.0")
        near = (report, {report.low: report}, [report, None], (report, True), [[report]], ([report],), "report", 1,
                [report, oracle.facts(report)], {0: 1}, [1], [report, "marks 1 5 size 3 mean 3.0"])
        for value in (*near, *oracle.ODD_VALUES):
            self.refuse(BadReports, shared_sizes, value, 4)
            # It comes ahead of BadMost.
            self.refuse(BadReports, shared_sizes, value, 0)
            self.refuse(BadReports, shared_sizes, value, True)
        self.refuse(BadReports, shared_sizes, [report] * 21, 41)

    def test_bad_most(self):
        report = Report(1, 5, 3, "3.0")
        near = (0, -1, 41, 1000, 10 ** 400, -10 ** 400, "1", [20], (20,))
        for most in (*near, *oracle.ODD_VALUES):
            self.refuse(BadMost, shared_sizes, [report], most)
            self.refuse(BadMost, shared_sizes, (report, Report(1, 5, 3, "7")), most)

    def test_most_at_its_limits(self):
        report = Report(1, 5, BIG, "3")
        self.assertEqual(shared_sizes([report], 1), [1])
        self.assertEqual(shared_sizes([report], 40), list(range(1, 41)))

    def test_nothing_is_changed(self):
        rows = [Report(*PLAIN), Report(1, 5, 1, "3.5")]
        given = list(rows)
        shared_sizes(rows, 4).append(7)
        self.assertEqual(shared_sizes(rows, 4), [2, 4])
        self.assertEqual((rows, len(rows)), (given, 2))
        self.assertEqual(oracle.facts(rows[0]), PLAIN)


def by_all_figures(*facts):
    """What misprints returns, by all prints of the form of the mean."""
    mean = facts[3]
    found = {}
    for letters in product(*["0123456789" if letter.isdigit() else letter for letter in mean]):
        text = "".join(letters)
        if oracle.is_print(text) and can_mean(Report(*facts[:3], text, *facts[4:])):
            found.setdefault(sum(one != other for one, other in zip(text, mean)), []).append(text)
    return (min(found), sorted(found[min(found)])) if found else None


class MisprintsTest(RefusingTest):
    def check(self, found, *facts):
        """Expect these misprints."""
        with self.subTest(facts):
            self.assertEqual(misprints(Report(*facts)), found)

    def test_none_is_wrong(self):
        self.check((0, ["3.0"]), 1, 5, 3, "3.0")
        self.check((0, ["3.40"]), 1, 5, 10, "3.40")
        self.check((0, ["3"]), 1, 5, BIG, "3")

    def test_one_figure(self):
        self.check((1, ["3.40"]), 1, 5, 10, "3.47")
        self.check((1, ["1", "2"]), 1, 2, 1, "7")
        self.check((1, ["1.0", "2.0", "3.0", "4.0", "5.0"]), 1, 5, 1, "9.0")
        self.check((1, ["0", "1"]), 0, 1, 1, "4")

    def test_several_figures(self):
        self.check((2, ["1.0", "1.5", "2.0"]), 1, 2, 2, "7.7")
        self.check((2, ["10.0", "10.5", "11.0"]), 10, 11, 2, "17.7")
        self.check((3, ["0.00", "1.00"]), 0, 1, 1, "7.77")
        self.check((4, ["0.000", "1.000"]), 0, 1, 1, "7.777")

    def test_it_stays_a_print(self):
        # No needless noughts ahead, and a minus only with some figure that is not 0.
        self.check((1, ["10", "11"]), 0, 11, 1, "17")
        self.check((2, ["10", "11"]), 0, 11, 1, "27")
        self.check((1, ["-1"]), -1, 1, 1, "-7")
        self.check(None, 0, 1, 1, "-7")
        self.check(None, 0, 1, 1, "77")
        self.check(None, 0, 9, 1, "12")
        self.check((0, ["11"]), 0, 11, 1, "11")
        self.check((1, ["-0.3", "-0.7"]), -1, 1, 3, "-0.4")
        self.check(None, 0, 1, 2, "-0.4")
        # A sum half way between two prints counts for both, but not for what is no print: -0, or 09.
        self.check((1, ["-1"]), -1, 1, 2, "-7")
        self.check((2, ["10", "11"]), 0, 11, 2, "77")
        self.check((1, ["-0.1", "-1.0"]), -1, 0, 20, "-1.1")
        self.check((2, ["10.0"]), 9, 10, 20, "97.0")

    def test_length_sign_and_point_stay(self):
        self.check((1, ["-3.0"]), -3, -2, 1, "-3.1")
        self.check(None, 1, 5, 3, "-3.1")
        self.check(None, 1, 5, 3, "31")
        self.check((1, ["3.0", "3.3", "3.7"]), 1, 5, 3, "3.1")

    def test_all_else_stays(self):
        self.check((1, ["3.0"]), 1, 5, 3, "3.1", None, "sample", 3, 3)
        self.check(None, 1, 5, 1, "3.1", None, "sample", 3, 4)
        self.check((0, ["3.0"]), 1, 5, 3, "3.0", "9", "whole", None, None, "-7")

    def test_by_all_figures(self):
        rows = (
            (1, 5, 10, "3.47"), (1, 5, 7, "9.99"), (-5, 5, 7, "-7.77"), (-5, 5, 3, "-0.1"), (0, 11, 9, "10.77"),
            (39, 50, 12, "99.99"), (-50, -39, 6, "-10.1"), (0, 1, 3, "9.999"), (1, 5, BIG, "9.999"), (0, 9, 2, "999"),
            (1, 5, 4, "7.77", None, "sample", 2, 5), (1, 5, 4, "7.77", "1", "whole", 2), (-1, 1, 7, "-0.99"),
            (0, 11, 1, "9999"), (-3, 3, 11, "-9.876"), (0, 10, 3, "19.99"), (5, 11, 1, "20"), (-1, 0, 40, "-0.999"),
        )
        for facts in rows:
            self.check(by_all_figures(*facts), *facts)
        # Of these some have more figures wrong than one, and some none at all.
        self.assertEqual(
            {0 if found is None else found[0] for found in (by_all_figures(*facts) for facts in rows)}, {0, 1, 2, 3, 4},
        )

    def test_four_figures_by_all_figures(self):
        source, seen = Random(13), {}
        for _ in range(30):
            low = source.choice((-50, -12, -3, -1, 0, 1, 5, 9, 39))
            high = low + source.choice((1, 2, 5, 11))
            least, greatest = source.choice(((None, None), (low, None), (None, high), (low, low), (high, high)))
            sign = source.choice(("", "-")) if low < 1 else ""
            mean = sign + source.choice(("7.777", "1.234", "12.34", "99.99", "0.123", "4321", "7.777"))
            facts = (low, high, source.choice((1, 2, 3, 7, 17, 40, 999, BIG)), mean, None, "sample", least, greatest)
            found = by_all_figures(*facts)
            self.check(found, *facts)
            seen[None if found is None else found[0]] = True
        self.assertGreater(len(seen), 4)

    def test_four_and_five_figures(self):
        for mean in ("3.000", "-0.100", "1234", "12.34", "123.4"):
            self.assertEqual(misprints(Report(1, 5, 3, mean)), by_all_figures(1, 5, 3, mean))
        for mean in ("3.0000", "10.000", "-3.0000", "1234.5", "1234.5678", "-9999.9999", "100.00"):
            for size in (1, 3, BIG):
                self.refuse(TooMany, misprints, Report(1, 5, size, mean))
                self.refuse(TooMany, misprints, Report(1, 5, size, mean, None, "sample", 3, 4))

    def test_what_is_returned_is_new(self):
        facts = (1, 5, 10, "3.47", "1.0", "sample", 1, 5, "3")
        report = Report(*facts)
        misprints(report)[1].append("7")
        self.assertEqual(misprints(report), (1, ["3.40"]))
        self.assertEqual((type(misprints(report)), type(misprints(report)[1])), (tuple, list))
        self.assertEqual(oracle.facts(report), facts)
        self.assertTrue(is_print(report.mean))


if __name__ == "__main__":
    unittest.main()

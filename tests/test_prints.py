"""Point [2]: which strings are prints, and which numbers can be printed as one."""

import unittest
from fractions import Fraction
from itertools import product

from meansinprint.errors import BadPrint
from meansinprint.prints import can_print, is_print, is_print_from_zero, mean_prints, print_bounds
from meansinprint.reports import Report
from meansinprint.sums import sum_range
from tests import oracle

PRINTS = (
    "0", "1", "9", "10", "99", "1000", "9999", "-1", "-9999", "0.0", "0.0000", "0.5", "-0.5", "-0.0001", "1.0",
    "1.00", "1.0000", "10.05", "9999.9999", "-9999.9999", "1000.0000", "-1.0", "-10.10",
)


class PrintsTest(unittest.TestCase):
    def test_prints(self):
        for text in PRINTS:
            with self.subTest(text):
                self.assertIs(is_print(text), True)
                self.assertEqual(Report(1, 5, 3, text).mean, text)
                self.assertEqual(Report(1, 5, 3, "3", None, "sample", None, None, text).middle, text)

    def test_nearly_prints(self):
        for text in oracle.NEARLY_PRINTS:
            with self.subTest(text[:20]):
                self.assertIs(is_print(text), False)
                self.assertIs(is_print_from_zero(text), False)
                self.assertRaises(BadPrint, Report, 1, 5, 3, text)

    def test_other_kinds(self):
        for value in (*oracle.ODD_VALUES, 0, 1, -1, 10 ** 5000):
            with self.subTest(repr(value) if not isinstance(value, int) else "an integer"):
                self.assertIs(is_print(value), False)
                self.assertIs(is_print_from_zero(value), False)

    def test_all_short_strings(self):
        for many in range(6):
            for letters in product("-.01", repeat=many):
                text = "".join(letters)
                self.assertIs(is_print(text), oracle.is_print(text), text)
                self.assertIs(is_print_from_zero(text), oracle.is_print(text) and text[0] != "-", text)

    def test_lengths(self):
        for whole, digits in product(range(7), range(7)):
            for sign, figure in product(("", "-"), "09"):
                text = sign + "7" * whole + "." + figure * digits
                self.assertIs(is_print(text), oracle.is_print(text), text)

    def test_letters(self):
        for code in (*range(0x250), *range(0x600, 0x700), 0x2212, 0xFF10, 0x1D7CE):
            for text in (chr(code), "1" + chr(code), chr(code) + "1", "1." + chr(code), "1.1" + chr(code)):
                self.assertIs(is_print(text), oracle.is_print(text), repr(text))


class PrintBoundsTest(unittest.TestCase):
    def test_bounds(self):
        rows = (
            ("0", -1, 1, 2), ("3", 5, 7, 2), ("-3", -7, -5, 2), ("3.0", 59, 61, 20), ("-0.5", -11, -9, 20),
            ("0.00", -1, 1, 200), ("1.005", 2009, 2011, 2000), ("-9999.9999", -199999999, -199999997, 20000),
        )
        for text, *found in rows:
            self.assertEqual(print_bounds(text), tuple(found))

    def test_bounds_are_half_a_unit_away(self):
        for text in PRINTS:
            below, above, parts = print_bounds(text)
            half = Fraction(1, 2 * 10 ** oracle.digits_of(text))
            expected = Fraction(text) - half, Fraction(text) + half
            self.assertEqual((Fraction(below, parts), Fraction(above, parts)), expected)

    def test_half_a_unit_on_either_side(self):
        # The mean of 1, 2 is printed as both whole numbers around it, one mark more or less no more.
        self.assertEqual(sum_range(Report(1, 2, 2, "1")), (2, 3))
        self.assertEqual(sum_range(Report(1, 2, 2, "2")), (3, 4))
        self.assertEqual(sum_range(Report(0, 5, 2, "0")), (0, 1))
        # 1 / 8 is 0.125: both 0.12 and 0.13 are half a unit away.
        for text, found in (("0.12", (1, 1)), ("0.13", (1, 1)), ("0.11", None), ("0.14", None), ("0.125", (1, 1))):
            self.assertEqual(sum_range(Report(0, 1, 8, text)), found)
        # 1 / 16 is 0.0625, 1 / 32 is 0.03125: half a unit of the third and the fourth digit.
        for text, found in (("0.062", (1, 1)), ("0.063", (1, 1)), ("0.061", None), ("0.064", None)):
            self.assertEqual(sum_range(Report(0, 1, 16, text)), found)
        for text, found in (("0.0312", (1, 1)), ("0.0313", (1, 1)), ("0.0311", None), ("0.0314", None)):
            self.assertEqual(sum_range(Report(0, 1, 32, text)), found)

    def test_half_a_unit_below_zero(self):
        for text, found in (("-0.12", (-1, -1)), ("-0.13", (-1, -1)), ("-0.11", None), ("-0.14", None)):
            self.assertEqual(sum_range(Report(-1, 0, 8, text)), found)
        self.assertEqual(sum_range(Report(-2, 2, 2, "-1")), (-3, -1))
        self.assertEqual(sum_range(Report(-2, 2, 2, "0")), (-1, 1))
        self.assertEqual(sum_range(Report(-2, 2, 2, "-2")), (-4, -3))

    def test_just_beyond_half_a_unit(self):
        # Of 10 ** 6 marks of 0 and 1, a millionth of a unit beyond the half decides.
        size = 10 ** 6
        self.assertEqual(sum_range(Report(0, 1, size, "0")), (0, 500000))
        self.assertEqual(sum_range(Report(0, 1, size, "1")), (500000, 1000000))
        self.assertEqual(sum_range(Report(0, 1, size, "0.5")), (450000, 550000))
        self.assertEqual(sum_range(Report(0, 1, size, "0.0001")), (50, 150))
        self.assertEqual(sum_range(Report(0, 1, 10 ** 6 - 1, "0")), (0, 499999))
        self.assertEqual(sum_range(Report(0, 1, 10 ** 6 - 1, "1")), (500000, 999999))


class PrintingTest(unittest.TestCase):
    def test_can_print(self):
        for text in ("0", "1", "-1", "0.0", "0.1", "-0.1", "0.12", "0.13", "-0.12", "2.500", "9999.9999"):
            for number, parts in product(range(-60, 61), (1, 2, 3, 8, 20, 16)):
                expected = oracle.can_print(Fraction(number, parts), text)
                self.assertIs(can_print(number, parts, text), expected, (number, parts, text))

    def test_mean_prints(self):
        # Less numbers come first, also below 0, and each print once.
        self.assertEqual(mean_prints([1, -3, -1, 1], 2, 0), ["-2", "-1", "0", "1"])
        self.assertEqual(mean_prints([1, -1], 8, 2), ["-0.13", "-0.12", "0.12", "0.13"])
        self.assertEqual(mean_prints([-1], 300, 2), ["0.00"])
        self.assertEqual(mean_prints([100, 20], 2, 1), ["10.0", "50.0"])
        self.assertEqual(mean_prints([], 2, 1), [])

    def test_mean_prints_by_fractions(self):
        for digits, many in product(range(5), (1, 2, 3, 4, 7, 8, 16, 32, 40, 999, 1000)):
            for total in (*range(-9, 10), *(sign * 50 * many + near for sign in (-1, 1) for near in (-1, 0, 1))):
                found = mean_prints([total], many, digits)
                self.assertEqual(found, oracle.prints_of([Fraction(total, many)], digits), (total, many, digits))
                self.assertTrue(all(is_print(text) and oracle.digits_of(text) == digits for text in found))


if __name__ == "__main__":
    unittest.main()

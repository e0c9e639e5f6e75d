"""Prints: strings that write numbers."""

from math import isqrt

from meansinprint.errors import BadDigits
from meansinprint.integers import is_int_within

FIGURES = "0123456789"
MOST_FIGURES = 4
MOST_DIGITS = 4
UNITS = (1, 10, 100, 1000, 10000)


def is_print(value):
    """Tell whether any value is a print."""
    if not isinstance(value, str):
        return False
    unsigned = value.removeprefix("-")
    whole, point, digits = unsigned.partition(".")
    if not _is_whole(whole) or (point and not _are_figures(digits)):
        return False
    return unsigned == value or _has_worth(unsigned)


def is_print_from_zero(value):
    """Tell whether any value is a print that is not below 0."""
    # A print with a minus is always below 0, as "-0" and the like are none.
    return is_print(value) and not value.startswith("-")


def digits_of(text):
    """Return how many digits the print has."""
    return len(text.partition(".")[2])


def print_bounds(text):
    """Return (least, most, parts): what can be printed as text is from least / parts to most / parts."""
    whole, _, digits = text.partition(".")
    # Half a unit of the last figure is one part, so the bounds are integers.
    written = 2 * int(whole + digits)
    return written - 1, written + 1, 2 * UNITS[len(digits)]


def can_print(number, parts, text):
    """Tell whether number / parts can be printed as text."""
    below, above, units = print_bounds(text)
    return below * parts <= number * units <= above * parts


def check_digits(digits):
    """Raise BadDigits unless any value is a number of digits that a print can have."""
    if not is_int_within(digits, 0, MOST_DIGITS):
        raise BadDigits("digits is no integer from 0 to 4")


def mean_prints(totals, many, digits):
    """Return the ascending list of all prints with so many digits of the means of so many marks with such totals."""
    found = sorted({units for total in totals for units in units_near(total, many, digits)})
    return [write_print(units, digits) for units in found]


def units_near(number, parts, digits):
    """Return the list of the one or two numbers of last figures as which number / parts can be printed."""
    doubled = 2 * number * UNITS[digits]
    least = -((parts - doubled) // (2 * parts))
    return list(range(least, (doubled + parts) // (2 * parts) + 1))


def units_near_root(number, parts, digits):
    """Return the list of the one or two numbers of last figures as which the root of number / parts can be printed."""
    # The root in halves of the last figure lies from halves to above.
    square = 4 * number * UNITS[digits] * UNITS[digits]
    halves = isqrt(square // parts)
    above = halves if halves * halves * parts == square else halves + 1
    return list(range(above // 2, (halves + 1) // 2 + 1))


def write_print(units, digits):
    """Return the print with so many digits that writes so many units of the last figure."""
    figures = str(abs(units)).zfill(digits + 1)
    whole = figures[:len(figures) - digits]
    sign = "-" if units < 0 else ""
    return f"{sign}{whole}.{figures[len(whole):]}" if digits else sign + whole


def _is_whole(text):
    return _are_figures(text) and (len(text) == 1 or text[0] != "0")


def _are_figures(text):
    # Not isdigit, which takes figures of other scripts, too.
    return 1 <= len(text) <= MOST_FIGURES and all([letter in FIGURES for letter in text])


def _has_worth(unsigned):
    return any([letter not in "0." for letter in unsigned])

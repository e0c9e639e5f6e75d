"""Prints: strings that write numbers."""

FIGURES = "0123456789"
MOST_FIGURES = 4
UNITS = (1, 10, 100, 1000, 10000)


def is_print(value):
    """Tell whether any value is a print."""
    if not isinstance(value, str):
        return False
    unsigned = value.removeprefix("-")
    whole, point, digits = unsigned.partition(".")
    if not _is_whole(whole) or (point and not _are_figures(digits)):
        return False
    return unsigned == value or _has_worth(unsigned)


def is_print_from_zero(value):
    """Tell whether any value is a print that is not below 0."""
    # A print with a minus is always below 0, as "-0" and the like are none.
    return is_print(value) and not value.startswith("-")


def print_bounds(text):
    """Return (least, most, parts): what can be printed as text is from least / parts to most / parts."""
    whole, _, digits = text.partition(".")
    # Half a unit of the last figure is one part, so the bounds are integers.
    written = 2 * int(whole + digits)
    return written - 1, written + 1, 2 * UNITS[len(digits)]


def can_print(number, parts, text):
    """Tell whether number / parts can be printed as text."""
    below, above, units = print_bounds(text)
    return below * parts <= number * units <= above * parts


def mean_prints(totals, many, digits):
    """Return the ascending list of all prints with so many digits of the means of so many marks with such totals."""
    found = sorted({units for total in totals for units in _units_near(total, many, digits)})
    return [_write_print(units, digits) for units in found]


def _units_near(number, parts, digits):
    """Return the list of the one or two numbers of last figures as which number / parts can be printed."""
    doubled = 2 * number * UNITS[digits]
    least = -((parts - doubled) // (2 * parts))
    return list(range(least, (doubled + parts) // (2 * parts) + 1))


def _write_print(units, digits):
    figures = str(abs(units)).zfill(digits + 1)
    whole = figures[:len(figures) - digits]
    sign = "-" if units < 0 else ""
    return f"{sign}{whole}.{figures[len(whole):]}" if digits else sign + whole


def _is_whole(text):
    return _are_figures(text) and (len(text) == 1 or text[0] != "0")


def _are_figures(text):
    # Not isdigit, which takes figures of other scripts, too.
    return 1 <= len(text) <= MOST_FIGURES and all([letter in FIGURES for letter in text])


def _has_worth(unsigned):
    return any([letter not in "0." for letter in unsigned])

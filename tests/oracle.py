"""What the document says, told the long way, and values that nothing takes."""

import re
from fractions import Fraction
from itertools import combinations_with_replacement, product
from math import isqrt

PRINT = re.compile(r"(-?)(0|[1-9][0-9]{0,3})(\.[0-9]{1,4})?")

# Values of every kind; none of them is an integer or a print.
ODD_VALUES = (
    None, True, False, "", " ", "x", "one", b"1", 1.0, 2.5, (), (1,), ("1",), [], [1], ["1"], {}, {1: 1}, {"1": 1},
    [[[]]], ((), ()), {"a": [None, {"b": ()}]}, frozenset(), object(), int, Fraction(1), 1 + 0j,
)

# Strings that are nearly prints.
NEARLY_PRINTS = (
    "", "-", ".", "-.", "0.", "1.", "-1.", ".5", "-.5", "00", "01", "00.5", "01.5", "-01", "-00.1", "-0", "-0.0",
    "-0.0000", "12345", "0.12345", "-12345", "1.00000", "10000", "+1", "+0.5", "--1", "-+1", "1-", "1.-1", "1.5.",
    "1.5.5", "1..5", "1,5", "1_0", "1.5_0", "1e1", "0x1", " 1", "1 ", "1\n", "\n1", "1. 5", "1 .5", "- 1", "1.5\n",
    "\u0661", "1.\u0665", "\u00b2", "\uff11", "\u22121", "1\u00b75", "nan", "inf", "None", "one", "1" * 5000,
    "0." + "1" * 5000, "9" * 100000,
)


def is_print(text):
    """Whether a string is a print, by one pattern."""
    found = PRINT.fullmatch(text)
    return found is not None and (found[1] == "" or re.search("[1-9]", text) is not None)


def digits_of(text):
    """How many digits a print has."""
    return len(text.partition(".")[2])


def can_print(number, text):
    """Whether a number can be printed as a print."""
    return abs(number - Fraction(text)) <= Fraction(1, 2 * 10 ** digits_of(text))


def written(units, digits):
    """The print that writes so many units of the last figure."""
    figures = str(abs(units)).zfill(digits + 1)
    text = figures if digits == 0 else figures[:-digits] + "." + figures[-digits:]
    return "-" + text if units < 0 else text


def tables(low, high, size):
    """For all lists, one by one: {(least, greatest): {sum: set of sums of squares}}."""
    found = {}
    for marks in product(range(low, high + 1), repeat=size):
        sums = found.setdefault((min(marks), max(marks)), {})
        sums.setdefault(sum(marks), set()).add(sum(mark * mark for mark in marks))
    return found


def by_ends(found, least, greatest):
    """Of what tables returns, the lists with the told ends: {sum: set of sums of squares}."""
    merged = {}
    for (first, last), sums in found.items():
        if least in (None, first) and greatest in (None, last):
            for total, squares in sums.items():
                merged.setdefault(total, set()).update(squares)
    return merged


def end_choices(low, high):
    """All that can be told of the ends: (least, greatest), each a mark or None."""
    marks = [None, *range(low, high + 1)]
    return [(a, b) for a in marks for b in marks if a is None or b is None or a <= b]


def facts(report):
    """The nine properties of a report."""
    return (
        report.low, report.high, report.size, report.mean, report.spread, report.kind,
        report.least, report.greatest, report.middle,
    )


def multisets(low, high, size):
    """All lists of the scale as ascending tuples, ascending."""
    return list(combinations_with_replacement(range(low, high + 1), size))


def ends_fit(report, marks):
    """Whether the ends of a list are the told ones."""
    return report.least in (None, min(marks)) and report.greatest in (None, max(marks))


def middle_of(marks):
    """The middle of a list, as a fraction."""
    row = sorted(marks)
    return Fraction(row[(len(row) - 1) // 2] + row[len(row) // 2], 2)


def spread_square(marks, kind):
    """The square of the spread of a list, as a fraction."""
    mean = Fraction(sum(marks), len(marks))
    return sum((mark - mean) ** 2 for mark in marks) / (len(marks) - (kind == "sample"))


def can_root(square, text):
    """Whether the root of a fraction that is not below 0 can be printed as a print."""
    half = Fraction(1, 2 * 10 ** digits_of(text))
    return max(Fraction(text) - half, 0) ** 2 <= square <= (Fraction(text) + half) ** 2


def fits_but_middle(report, marks):
    """Whether a list of the scale and the size fits the report, whatever its middle."""
    if not ends_fit(report, marks) or not can_print(Fraction(sum(marks), len(marks)), report.mean):
        return False
    return report.spread is None or can_root(spread_square(marks, report.kind), report.spread)


def fits(report, marks):
    """Whether a list of the scale and the size fits the report."""
    return fits_but_middle(report, marks) and (report.middle is None or can_print(middle_of(marks), report.middle))


def gives(report, total, square):
    """Whether a sum and a sum of squares, of a list or not, give the mean and, if it is told, the spread."""
    if not can_print(Fraction(total, report.size), report.mean):
        return False
    parts = report.size - (report.kind == "sample")
    return report.spread is None or can_root((square - Fraction(total * total, report.size)) / parts, report.spread)


def pair_of(marks):
    """The sum and the sum of squares."""
    return sum(marks), sum(mark * mark for mark in marks)


def prints_of(numbers, digits):
    """All prints with so many digits of any of the fractions, those of less numbers first."""
    found = set()
    for number in numbers:
        near = int(number * 10 ** digits)
        found.update(units for units in range(near - 3, near + 4) if can_print(number, written(units, digits)))
    return [written(units, digits) for units in sorted(found)]


def root_prints(square, digits):
    """All prints with so many digits of the root of a fraction that is not below 0, those of less numbers first."""
    near = isqrt(int(square * 100 ** digits))
    units = range(max(near - 3, 0), near + 4)
    return [written(unit, digits) for unit in units if can_root(square, written(unit, digits))]


def two_prints(rows, kind, digits, more):
    """All tuples of prints (mean, spread) of the lists, those with the less mean, then with the less spread first."""
    found = {}
    for size, total, square in {(len(row), *pair_of(row)) for row in rows}:
        apart = (square - Fraction(total * total, size)) / (size - (kind == "sample"))
        for mean in prints_of([Fraction(total, size)], digits):
            for spread in root_prints(apart, more):
                found[Fraction(mean), Fraction(spread)] = mean, spread
    return [found[numbers] for numbers in sorted(found)]

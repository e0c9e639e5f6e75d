"""Reports of few marks, each with all lists of its scale and size."""

from fractions import Fraction
from math import isqrt
from random import Random

from meansinprint.reports import Report
from tests import oracle

# low, high and the greatest size.
SCALES = (
    (0, 1, 6), (1, 3, 6), (-2, 0, 5), (-1, 2, 4), (1, 5, 4), (48, 50, 3), (-50, -48, 3), (2, 7, 3), (1, 4, 6),
    (0, 9, 3), (-50, -39, 2), (-6, 5, 2), (-3, 3, 4),
)
REPORTS = 90


def a_print(number, source):
    """A print of a fraction, or one beside it, with some digits."""
    digits = source.choice((0, 1, 1, 2, 2, 4))
    return oracle.written(round(number * 10 ** digits) + source.choice((0, 0, 0, 0, 0, 0, 1, -1)), digits)


def a_spread(marks, total, kind, source):
    """A print of the spread that a sum of squares near that of a list would make, or None."""
    size = len(marks)
    if (size, kind) == (1, "sample") or source.randrange(4) == 0:
        return None
    squares = sum(mark * mark for mark in marks) + source.choice((0, 0, 0, 1, -1, 2, -2, 2, -2, 4, -4, 6))
    square = (squares - Fraction(total * total, size)) / (size - (kind == "sample"))
    return a_print(max(0, Fraction(isqrt(int(max(square, 0) * 10 ** 12)), 10 ** 6)), source).removeprefix("-")


def a_report(rows, low, high, source):
    """A report that one of the lists is, or nearly is."""
    marks = source.choice(rows)
    total = sum(marks) + source.choice((0, 0, 0, 0, 1, -1))
    kind = source.choice(("sample", "whole"))
    spread = a_spread(marks, total, kind, source)
    ends = source.choice((None, None, marks[0])), source.choice((None, None, marks[-1]))
    if source.randrange(4) == 0:
        ends = source.choice(oracle.end_choices(low, high))
    middle = source.choice((None, None, a_print(oracle.middle_of(marks), source)))
    return Report(low, high, len(marks), a_print(Fraction(total, len(marks)), source), spread, kind, *ends, middle)


def all_told(many=REPORTS):
    """Reports of all the scales, each with all lists of its scale and size; the same ones whenever they are told."""
    source = Random(5)
    for low, high, most in SCALES:
        for size in range(1, most + 1):
            rows = oracle.multisets(low, high, size)
            for _ in range(many):
                yield a_report(rows, low, high, source), rows

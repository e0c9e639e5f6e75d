"""The sums, and the sums of squares, that lists of a report can have."""

from meansinprint.ends import mark_range, told_marks
from meansinprint.errors import BadMost, BadSum
from meansinprint.integers import is_int, is_int_within
from meansinprint.prints import print_bounds

MOST_MOST = 1000


def sum_range(report):
    """Return the tuple of the least and the greatest sum by scale, size, ends and mean; None if there are none."""
    return sums_with(report, report.size, report.mean)


def can_mean(report):
    """Tell whether some list fits scale, size, ends and mean."""
    return sum_range(report) is not None


def sizes_for(report, most):
    """Return the list of all numbers of marks from 1 to most by which some list fits scale, ends and mean."""
    if not is_int_within(most, 1, MOST_MOST):
        raise BadMost("most is no integer from 1 to 1000")
    sizes = range(fewest_marks(report), most + 1)
    return [size for size in sizes if sums_with(report, size, report.mean) is not None]


def square_range(report, total):
    """Return the tuple of the least and the greatest sum of squares by scale, size, ends and total, or None."""
    if not is_int(total):
        raise BadSum("total is no integer")
    told = told_marks(report, report.size)
    if told is None:
        return None
    low, high = mark_range(report)
    many = report.size - len(told)
    rest = total - sum(told)
    if not many * low <= rest <= many * high:
        return None
    squares = sum([mark * mark for mark in told])
    return squares + _least_squares(many, rest), squares + _greatest_squares(many, low, high, rest)


def fewest_marks(report):
    """Return the least number of marks that a report with this spread and kind can have."""
    # One mark has no spread of a sample.
    return 2 if report.spread is not None and report.kind == "sample" else 1


def sums_with(report, size, mean):
    """Return what sum_range returns, but for lists of so many marks with this print of the mean."""
    found = end_sums(report, size)
    if found is None:
        return None
    below, above, parts = print_bounds(mean)
    least = max(found[0], -(-size * below // parts))
    greatest = min(found[1], size * above // parts)
    return (least, greatest) if least <= greatest else None


def end_sums(report, size):
    """Return the tuple of the least and the greatest sum of so many marks by scale and ends alone, or None."""
    told = told_marks(report, size)
    if told is None:
        return None
    low, high = mark_range(report)
    many = size - len(told)
    return sum(told) + many * low, sum(told) + many * high


def _least_squares(many, total):
    """Return the sum of squares of so many marks with this total that are as even as can be."""
    if many == 0:
        return 0
    mark, higher = divmod(total, many)
    return (many - higher) * mark * mark + higher * (mark + 1) * (mark + 1)


def _greatest_squares(many, low, high, total):
    """Return the sum of squares of so many marks with this total that are low or high, but for at most one."""
    over = total - many * low
    if over == 0:
        return many * low * low
    highs, rest = divmod(over, high - low)
    between = low + rest
    # With no rest the one between is low, and what it is over low ones is 0.
    return many * low * low + highs * (high * high - low * low) + between * between - low * low

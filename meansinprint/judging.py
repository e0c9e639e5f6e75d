"""Whether a report can be, and why not."""

from meansinprint.errors import BadMost
from meansinprint.integers import is_int_within
from meansinprint.spreads import could_spread, spread_bounds
from meansinprint.sums import fewest_marks, sum_range, sums_with
from meansinprint.tables import MOST_MARKS, SquareTable, check_few


def pairs(report):
    """Return the ascending list of the tuples (sum, sum of squares) of all lists that fit, whatever the middle."""
    check_few(report)
    table = SquareTable(report, report.size)
    found = []
    for total in _totals(report, report.size):
        found.extend([(total, square) for square in _squares_told(report, report.size, total, table)])
    return found


def verdict(report):
    """Return "good" if some list fits, whatever the middle, otherwise what stands against it."""
    check_few(report)
    if _is_good(report, report.size, SquareTable(report, report.size)):
        return "good"
    if sum_range(report) is None:
        return "mean"
    could = [total for total in _totals(report, report.size) if could_spread(report, total)]
    return "gap" if could else "spread"


def sizes(report, most):
    """Return the ascending list of all numbers of marks from 1 to most by which the verdict is "good"."""
    if not is_int_within(most, 1, MOST_MARKS):
        raise BadMost("most is no integer from 1 to 40")
    table = SquareTable(report, most)
    return [size for size in range(fewest_marks(report), most + 1) if _is_good(report, size, table)]


def _is_good(report, size, table):
    for total in _totals(report, size):
        if _squares_told(report, size, total, table):
            return True
    return False


def _totals(report, size):
    """Return the ascending list of all sums of so many marks by scale, ends and mean."""
    found = sums_with(report, size, report.mean)
    return [] if found is None else list(range(found[0], found[1] + 1))


def _squares_told(report, size, total, table):
    """Return the ascending list of all sums of squares with this total by which the spread can be told."""
    return table.squares_within(size, total, spread_bounds(report, size, total))

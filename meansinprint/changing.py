"""What becomes of a report if a mark, another list, its size or a figure changes."""

from meansinprint.errors import BadMark, BadReports, TooMany, Unlike
from meansinprint.figures import OtherMeans
from meansinprint.halves import fitting_rows
from meansinprint.integers import is_int_within
from meansinprint.judging import sizes
from meansinprint.prints import FIGURES, check_digits, mean_prints
from meansinprint.reports import Report
from meansinprint.sums import end_sums, sum_range

MOST_JOINED = 1000
MOST_REPORTS = 20
MOST_CHANGED = 4


def without(report, mark, digits):
    """Return the ascending list of the prints of the mean of the others, the mark taken out of a list that fits."""
    if report.size == 1 or not is_int_within(mark, report.low, report.high):
        raise BadMark("there is no such mark to take out, or no other")
    check_digits(digits)
    at = mark - report.low
    totals = sorted({total - mark for total, counts in fitting_rows(report) if counts[at] > 0})
    return mean_prints(totals, report.size - 1, digits)


def joined_prints(one, other, digits):
    """Return the ascending list of the prints of the mean of all marks of two lists by their reports' sums."""
    if (one.low, one.high) != (other.low, other.high):
        raise Unlike("the scales are unlike")
    check_digits(digits)
    many = one.size + other.size
    if many > MOST_JOINED:
        raise TooMany("there are more than 1000 marks together")
    left, right = sum_range(one), sum_range(other)
    if left is None or right is None:
        return []
    return mean_prints(list(range(left[0] + right[0], left[1] + right[1] + 1)), many, digits)


def shared_sizes(reports, most):
    """Return the ascending list of all numbers of marks that are in sizes of each of the reports."""
    if not _are_reports(reports):
        raise BadReports("there is no list or tuple of 1 to 20 reports")
    rows = [sizes(report, most) for report in reports]
    return [size for size in rows[0] if all([size in row for row in rows])]


def misprints(report):
    """Return (many, prints): how many figures of mean must be others at least, and by which prints; or None."""
    if len([letter for letter in report.mean if letter in FIGURES]) > MOST_CHANGED:
        raise TooMany("the mean has more than 4 figures")
    sums = end_sums(report, report.size)
    if sums is None:
        return None
    others = OtherMeans(report, sums)
    for many in range(MOST_CHANGED + 1):
        found = others.changed(many)
        if found:
            return many, found
    return None


def _are_reports(value):
    if not isinstance(value, (list, tuple)) or not 1 <= len(value) <= MOST_REPORTS:
        return False
    return all([isinstance(report, Report) for report in value])

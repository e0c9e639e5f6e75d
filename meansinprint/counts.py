"""Lists told by their counts: how often each mark of the scale comes in a list, from the lowest mark on."""

from math import comb

from meansinprint.errors import TooMany
from meansinprint.prints import can_print
from meansinprint.spreads import sums_give

MOST_LISTS = 20000


def fitting_counts(report):
    """Return the counts of all lists that fit, in the ascending order of the lists as tuples."""
    width = report.high - report.low
    if comb(report.size + width, width) > MOST_LISTS:
        raise TooMany("the scale has more than 20000 lists of this size")
    return [counts for counts in _all_counts(report.size, width + 1) if counts_fit(report, counts)]


def counts_fit(report, counts):
    """Tell whether the list with these counts, which has the report's size, fits the report."""
    return _ends_fit(report, counts) and _sums_fit(report, counts) and _middle_fits(report, counts)


def marks_of(low, counts):
    """Return the list with these counts as an ascending tuple."""
    return tuple([low + over for over, many in enumerate(counts) for _ in range(many)])


def total_of(low, counts):
    """Return the sum of the list with these counts."""
    return sum([many * (low + over) for over, many in enumerate(counts)])


def _all_counts(size, marks):
    """Return all counts of lists of one size; one that has more of a mark is ahead, as its next mark is less."""
    rows = [((), size)]
    for _ in range(marks - 1):
        rows = [((*counts, many), left - many) for counts, left in rows for many in reversed(range(left + 1))]
    return [(*counts, left) for counts, left in rows]


def _ends_fit(report, counts):
    if report.least is not None and _mark_at(report.low, counts, 0) != report.least:
        return False
    return report.greatest is None or _mark_at(report.low, counts, report.size - 1) == report.greatest


def _sums_fit(report, counts):
    squares = sum([many * (report.low + over) * (report.low + over) for over, many in enumerate(counts)])
    return sums_give(report, total_of(report.low, counts), squares)


def _middle_fits(report, counts):
    if report.middle is None:
        return True
    # With an odd number of marks both of these are the one in the middle.
    left = _mark_at(report.low, counts, (report.size - 1) // 2)
    right = _mark_at(report.low, counts, report.size // 2)
    return can_print(left + right, 2, report.middle)


def _mark_at(low, counts, place):
    """Return the mark that has so many others ahead of it in the list in order."""
    mark = low
    for many in counts:
        if place < many:
            break
        place = place - many
        mark = mark + 1
    return mark

"""Lists told by their counts: how often each mark of the scale comes in a list, from the lowest mark on."""

from meansinprint.prints import can_print
from meansinprint.spreads import sums_give


def counts_fit(report, counts):
    """Tell whether the list with these counts, which has the report's size, fits the report."""
    return _ends_fit(report, counts) and _sums_fit(report, counts) and _middle_fits(report, counts)


def marks_of(low, counts):
    """Return the list with these counts as an ascending tuple."""
    return tuple([low + over for over, many in enumerate(counts) for _ in range(many)])


def total_of(low, counts):
    """Return the sum of the list with these counts."""
    return sum([many * (low + over) for over, many in enumerate(counts)])


def mark_at(low, counts, place):
    """Return the mark that has so many others ahead of it in the list in order."""
    mark = low
    for many in counts:
        if place < many:
            break
        place = place - many
        mark = mark + 1
    return mark


def _ends_fit(report, counts):
    if report.least is not None and mark_at(report.low, counts, 0) != report.least:
        return False
    return report.greatest is None or mark_at(report.low, counts, report.size - 1) == report.greatest


def _sums_fit(report, counts):
    squares = sum([many * (report.low + over) * (report.low + over) for over, many in enumerate(counts)])
    return sums_give(report, total_of(report.low, counts), squares)


def _middle_fits(report, counts):
    if report.middle is None:
        return True
    # With an odd number of marks both of these are the one in the middle.
    left = mark_at(report.low, counts, (report.size - 1) // 2)
    right = mark_at(report.low, counts, report.size // 2)
    return can_print(left + right, 2, report.middle)

"""All lists of a report, one by one."""

from meansinprint.counts import counts_fit, fitting_counts, marks_of
from meansinprint.errors import TooMany
from meansinprint.integers import is_int_within
from meansinprint.reports import without_middle

MOST_SHOWN = 200


def fits(report, value):
    """Tell whether any value is a list or tuple of integers that fits the report."""
    if not isinstance(value, (list, tuple)) or len(value) != report.size:
        return False
    if not all([is_int_within(mark, report.low, report.high) for mark in value]):
        return False
    return counts_fit(report, [value.count(mark) for mark in range(report.low, report.high + 1)])


def is_list_but_middle(report, value):
    """Tell whether any value is an ascending tuple that fits the report, whatever its middle."""
    return isinstance(value, tuple) and fits(without_middle(report), value) and list(value) == sorted(value)


def count_lists(report):
    """Return how many lists fit."""
    return len(fitting_counts(report))


def all_lists(report):
    """Return the ascending list of all lists that fit, as ascending tuples."""
    found = fitting_counts(report)
    if len(found) > MOST_SHOWN:
        raise TooMany("more than 200 lists fit")
    return [marks_of(report.low, counts) for counts in found]


def first_list(report):
    """Return the first list that fits, or None."""
    found = fitting_counts(report)
    return marks_of(report.low, found[0]) if found else None


def often(report):
    """Return the list of (mark, few, many): how often each mark comes in a list that fits; None if none fits."""
    found = fitting_counts(report)
    if not found:
        return None
    return [
        (report.low + over, min([counts[over] for counts in found]), max([counts[over] for counts in found]))
        for over in range(report.high - report.low + 1)
    ]


def sure_marks(report):
    """Return the ascending list of the marks that come in all lists that fit; None if none fits."""
    rows = often(report)
    return None if rows is None else [mark for mark, few, _ in rows if few > 0]

"""All lists of a report, one by one."""

from meansinprint.counts import counts_fit, marks_of
from meansinprint.errors import TooMany
from meansinprint.halves import fitting_rows
from meansinprint.integers import is_int_within
from meansinprint.reports import without_middle

MOST_SHOWN = 200


def fits(report, value):
    """Tell whether any value is a list or tuple of integers that fits the report."""
    if not isinstance(value, (list, tuple)) or len(value) != report.size:
        return False
    if not all([is_int_within(mark, report.low, report.high) for mark in value]):
        return False
    return counts_fit(report, [value.count(mark) for mark in range(report.low, report.high + 1)])


def is_list_but_middle(report, value):
    """Tell whether any value is an ascending tuple that fits the report, whatever its middle."""
    return isinstance(value, tuple) and fits(without_middle(report), value) and list(value) == sorted(value)


def count_lists(report):
    """Return how many lists fit."""
    return len(fitting_rows(report))


def all_lists(report):
    """Return the ascending list of all lists that fit, as ascending tuples."""
    found = fitting_rows(report)
    if len(found) > MOST_SHOWN:
        raise TooMany("more than 200 lists fit")
    return [marks_of(report.low, counts) for _, counts in found]


def first_list(report):
    """Return the first list that fits, or None."""
    found = fitting_rows(report)
    return marks_of(report.low, found[0][1]) if found else None


def often(report):
    """Return the list of (mark, few, many): how often each mark comes in a list that fits; None if none fits."""
    found = [counts for _, counts in fitting_rows(report)]
    if not found:
        return None
    return [(report.low + over, min(column), max(column)) for over, column in enumerate(zip(*found))]


def sure_marks(report):
    """Return the ascending list of the marks that come in all lists that fit; None if none fits."""
    rows = often(report)
    return None if rows is None else [mark for mark, few, _ in rows if few > 0]

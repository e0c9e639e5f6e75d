"""The lists of a report by their numbers, whatever its middle."""

from meansinprint.errors import BadNumber, TooMany
from meansinprint.integers import is_int_within
from meansinprint.lists import is_list_but_middle
from meansinprint.ways import Ways

MOST_MARKS = 16
MOST_WIDTH = 6


def many_lists(report):
    """Return how many lists fit."""
    _check_small(report)
    return Ways(report).many()


def kth_list(report, k):
    """Return the list that has k others ahead of it, in ascending order."""
    _check_small(report)
    ways = Ways(report)
    if not is_int_within(k, 0, ways.many() - 1):
        raise BadNumber("there is no list with this number")
    return ways.kth(k)


def rank_list(report, value):
    """Return how many lists are ahead of any value that is one of them, None for any other."""
    _check_small(report)
    return Ways(report).rank(value) if is_list_but_middle(report, value) else None


def _check_small(report):
    if report.size > MOST_MARKS or report.high - report.low > MOST_WIDTH:
        raise TooMany("the report has more than 16 marks, or its scale more than 7")

"""The sums of squares of lists with a sum, one by one."""

from meansinprint.sums import end_sums, square_range
from meansinprint.tables import SquareTable, check_few


def squares(report, total):
    """Return the ascending list of all sums of squares of lists by scale, size, ends and total."""
    # This raises BadSum, which comes ahead of TooMany.
    bounds = square_range(report, total)
    check_few(report)
    if bounds is None:
        return []
    return SquareTable(report, report.size).squares_within(report.size, total, bounds)


def gap(report, total):
    """Return the least integer, even just if total is, that lacks among the sums of squares; None if there is none."""
    found = squares(report, total)
    for at in range(1, len(found)):
        if found[at] != found[at - 1] + 2:
            return found[at - 1] + 2
    return None


def all_squares(report):
    """Return a dict of all sums by scale, size and ends, ascending, each with the ascending list of its squares."""
    found = end_sums(report, report.size)
    if found is None:
        return {}
    table = SquareTable(report, report.size)
    totals = range(found[0], found[1] + 1)
    return {total: table.squares_within(report.size, total, square_range(report, total)) for total in totals}

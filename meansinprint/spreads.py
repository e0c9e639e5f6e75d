"""By which sums of squares the spread of a report can be printed as told."""

from meansinprint.prints import print_bounds
from meansinprint.sums import square_range


def spread_bounds(report, size, total):
    """Return the least and the greatest integer by which, as sum of squares, the spread can be printed as told."""
    if report.spread is None:
        return 0, size * max(report.low * report.low, report.high * report.high)
    below, above, parts = print_bounds(report.spread)
    # No root is below 0, so neither is what it is compared with.
    below = max(below, 0)
    # The square of the spread is (size * squares - total * total) / over, so no root has to be taken.
    over = size * (size - 1) if report.kind == "sample" else size * size
    known = parts * parts * total * total
    whole = parts * parts * size
    return -(-(below * below * over + known) // whole), (above * above * over + known) // whole


def could_spread(report, total):
    """Tell whether some integer in square_range, even just if total is, lets the spread be printed as told."""
    least, greatest = square_range(report, total)
    below, above = spread_bounds(report, report.size, total)
    first = max(least, below)
    if (first - total) & 1:
        first += 1
    return first <= min(greatest, above)

"""By which sums, and sums of squares, mean and spread of a report can be printed as told."""

from meansinprint.prints import can_print, print_bounds
from meansinprint.sums import square_range


def spread_over(size, kind):
    """Return by what size * squares - total * total is divided to be the square of the spread."""
    return size * (size - 1) if kind == "sample" else size * size


def spread_room(report, size):
    """Return the least and the greatest size * squares - total * total by which the spread is printed as told."""
    if report.spread is None:
        width = report.high - report.low
        # No list has less than 0, or more than if each two of its marks were the whole width apart.
        return 0, size * size * width * width
    below, above, parts = print_bounds(report.spread)
    # No root is below 0, so neither is what it is compared with.
    below = max(below, 0)
    # What is measured here is the square of the spread times over, so no root has to be taken.
    over = spread_over(size, report.kind)
    return -(-below * below * over // (parts * parts)), above * above * over // (parts * parts)


def spread_bounds(report, size, total):
    """Return the least and the greatest sum of squares of lists by which the spread can be printed as told."""
    least, greatest = spread_room(report, size)
    known = total * total
    return -(-(least + known) // size), (greatest + known) // size


def could_spread(report, total):
    """Tell whether some integer in square_range, even just if total is, lets the spread be printed as told."""
    least, greatest = square_range(report, total)
    below, above = spread_bounds(report, report.size, total)
    first = max(least, below)
    if (first - total) & 1:
        first += 1
    return first <= min(greatest, above)


def sums_give(report, total, square):
    """Tell whether a sum and a sum of squares, whatever they are, give the mean and, if it is told, the spread."""
    size = report.size
    if not can_print(total, size, report.mean):
        return False
    if report.spread is None:
        return True
    least, greatest = spread_room(report, size)
    return least <= size * square - total * total <= greatest

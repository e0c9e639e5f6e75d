"""A whole that is put together from groups, told by the scale, size, mean, spread and kind of its report."""

from meansinprint.errors import BadSize, TooMany, Unlike
from meansinprint.judging import pairs
from meansinprint.pairprints import pair_prints
from meansinprint.prints import check_digits
from meansinprint.reports import Report
from meansinprint.spreads import spread_bounds
from meansinprint.squares import all_squares
from meansinprint.sums import sum_range

MOST_MARKS = 20


def split_pairs(whole, one, other):
    """Return the ascending list of the tuples (pair of one, pair of other) by which together the whole is as told."""
    _check_scale(whole, one)
    _check_scale(whole, other)
    _check_few(whole)
    if one.size + other.size != whole.size:
        raise BadSize("the groups have not as many marks as the whole")
    bounds = _square_bounds(whole)
    right = _by_sums(pairs(other))
    found = []
    for pair in pairs(one):
        for total, others in right.items():
            if pair[0] + total in bounds:
                least, greatest = bounds[pair[0] + total]
                found.extend([(pair, known) for known in others if least <= pair[1] + known[1] <= greatest])
    return found


def rest_prints(whole, one, digits, more):
    """Return the list of the prints (mean, spread) of the marks of the whole that are not of one, lesser ones first."""
    _check_scale(whole, one)
    _check_few(whole)
    many = whole.size - one.size
    if many < 1 or (many == 1 and whole.kind == "sample"):
        raise BadSize("there are too few marks left")
    check_digits(digits)
    check_digits(more)
    bounds = _square_bounds(whole)
    known = _by_sums(pairs(one))
    # Of what is left neither the mean nor the ends are told, so any mean will do here.
    table = all_squares(Report(whole.low, whole.high, many, whole.mean))
    left = {total: _squares_left(total, squares, known, bounds) for total, squares in table.items()}
    return pair_prints(left, many, whole.kind, digits, more)


def _check_scale(whole, group):
    if (group.low, group.high) != (whole.low, whole.high):
        raise Unlike("a group has another scale than the whole")


def _check_few(whole):
    if whole.size > MOST_MARKS:
        raise TooMany("the whole has more than 20 marks")


def _square_bounds(whole):
    """Return a dict of the sums by which the mean is as told: the bounds of the squares by which the spread is."""
    # The whole's ends are not looked at.
    plain = Report(whole.low, whole.high, whole.size, whole.mean, whole.spread, whole.kind)
    found = sum_range(plain)
    totals = [] if found is None else list(range(found[0], found[1] + 1))
    return {total: spread_bounds(plain, plain.size, total) for total in totals}


def _by_sums(rows):
    """Return a dict of the ascending pairs by their sums."""
    found = {}
    for pair in rows:
        found.setdefault(pair[0], []).append(pair)
    return found


def _squares_left(total, squares, known, bounds):
    """Return those of the squares of a rest with this total that go with some pair of the known group."""
    return sorted({
        square
        for other, others in known.items() if total + other in bounds
        for square in _squares_joining(squares, others, bounds[total + other])
    })


def _squares_joining(squares, others, bounds):
    """Return those of the ascending squares that together with one of the ascending pairs are within bounds."""
    least, greatest = bounds
    found = []
    at = len(others) - 1
    for square in squares:
        # The greater the one, the less the greatest other one that goes with it.
        while at >= 0 and square + others[at][1] > greatest:
            at -= 1
        if at >= 0 and square + others[at][1] >= least:
            found.append(square)
    return found

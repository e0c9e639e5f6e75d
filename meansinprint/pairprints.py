"""Prints of mean and spread together."""

from meansinprint.prints import units_near, units_near_root, write_print
from meansinprint.spreads import spread_over


def pair_prints(table, size, kind, digits, more):
    """Return the list of the prints (mean, spread) of lists, those with the less mean, then the less spread first.

    The table tells the lists: a dict of the sums of so many marks, each with the list of its sums of squares.
    """
    over = spread_over(size, kind)
    apart = {}
    for total, squares in table.items():
        known = [size * square - total * total for square in squares]
        for mean in units_near(total, size, digits):
            apart.setdefault(mean, []).extend(known)
    # Shifted lists have the same spread, so there are far less of these than sums of squares.
    roots = {number: units_near_root(number, over, more) for number in _members(apart)}
    texts = {units: write_print(units, more) for units in _members(roots)}
    found = []
    for mean in sorted(apart):
        text = write_print(mean, digits)
        spreads = sorted({spread for number in apart[mean] for spread in roots[number]})
        found.extend([(text, texts[spread]) for spread in spreads])
    return found


def _members(rows):
    """Return the ascending list of all that is in the lists of a dict."""
    return sorted({member for row in rows.values() for member in row})

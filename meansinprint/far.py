"""Reports of any size, judged by ranges."""

from meansinprint.errors import TooMany
from meansinprint.spreads import could_spread
from meansinprint.sums import sum_range

MOST_SUMS = 10000


def far_verdict(report):
    """Return "mean" or "spread" if these stand against the report by their ranges alone, otherwise "open"."""
    found = sum_range(report)
    if found is None:
        return "mean"
    least, greatest = found
    if greatest - least >= MOST_SUMS:
        raise TooMany("there are more than 10000 sums")
    # Without a told spread every sum leaves it open.
    for total in range(least, greatest + 1):
        if could_spread(report, total):
            return "open"
    return "spread"

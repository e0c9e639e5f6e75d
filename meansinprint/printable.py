"""The prints of mean and spread that lists can have by scale, size and ends."""

from meansinprint.errors import BadKind, BadPrint, TooMany
from meansinprint.pairprints import pair_prints
from meansinprint.prints import check_digits, digits_of
from meansinprint.squares import all_squares

MOST_MARKS = 12


def print_pairs(report, digits, more):
    """Return the list of all prints (mean, spread), those with the less mean, then the less spread first."""
    _check_report(report)
    check_digits(digits)
    check_digits(more)
    return _all_prints(report, digits, more)


def nearest_prints(report):
    """Return (many, rows): the fewest figures of mean and spread that must be others, and by which prints; or None."""
    _check_report(report)
    if report.spread is None:
        raise BadPrint("spread")
    found = _all_prints(report, digits_of(report.mean), digits_of(report.spread))
    means = _changes(sorted({mean for mean, _ in found}), report.mean)
    spreads = _changes(sorted({spread for _, spread in found}), report.spread)
    rows = [row for row in found if row[0] in means and row[1] in spreads]
    if not rows:
        return None
    fewest = min([means[mean] + spreads[spread] for mean, spread in rows])
    return fewest, [(mean, spread) for mean, spread in rows if means[mean] + spreads[spread] == fewest]


def _check_report(report):
    if report.size > MOST_MARKS:
        raise TooMany("there are more than 12 marks")
    if report.size == 1 and report.kind == "sample":
        raise BadKind("one mark has no spread of a sample")


def _all_prints(report, digits, more):
    return pair_prints(all_squares(report), report.size, report.kind, digits, more)


def _changes(texts, text):
    """Return a dict of those of the prints that differ from this one by figures alone: by how many of them."""
    # With as many digits, the point stands where it stands if sign and length are alike.
    alike = [other for other in texts if len(other) == len(text) and other.startswith("-") == text.startswith("-")]
    return {other: len([one for one, two in zip(other, text) if one != two]) for other in alike}

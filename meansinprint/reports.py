"""Reports: what a paper prints of a list of marks."""

from meansinprint.errors import BadEnd, BadKind, BadPrint, BadScale, BadSize
from meansinprint.integers import is_int_within
from meansinprint.prints import is_print, is_print_from_zero

LEAST_LOW = -50
MOST_HIGH = 50
MOST_WIDTH = 11
MOST_SIZE = 10 ** 6
KINDS = ("sample", "whole")


class Report:
    """What is told of a list of marks: its scale, size and mean, and perhaps its spread, ends and middle."""

    def __init__(self, low, high, size, mean, spread=None, kind="sample", least=None, greatest=None, middle=None):
        _check_scale(low, high)
        _check_size(size)
        _check_prints(mean, spread, middle)
        _check_kind(kind, spread, size)
        _check_ends(low, high, least, greatest)
        self._low = low
        self._high = high
        self._size = size
        self._mean = mean
        self._spread = spread
        self._kind = kind
        self._least = least
        self._greatest = greatest
        self._middle = middle

    def __eq__(self, other):
        return (
            isinstance(other, Report)
            and self._low == other._low
            and self._high == other._high
            and self._size == other._size
            and self._mean == other._mean
            and self._spread == other._spread
            and self._kind == other._kind
            and self._least == other._least
            and self._greatest == other._greatest
            and self._middle == other._middle
        )

    @property
    def low(self):
        """The lowest mark of the scale."""
        return self._low

    @property
    def high(self):
        """The highest mark of the scale."""
        return self._high

    @property
    def size(self):
        """The number of marks."""
        return self._size

    @property
    def mean(self):
        """The print of the mean."""
        return self._mean

    @property
    def spread(self):
        """The print of the spread, or None."""
        return self._spread

    @property
    def kind(self):
        """The kind of spread: "sample" or "whole"."""
        return self._kind

    @property
    def least(self):
        """The least mark, or None."""
        return self._least

    @property
    def greatest(self):
        """The greatest mark, or None."""
        return self._greatest

    @property
    def middle(self):
        """The print of the middle, or None."""
        return self._middle


def most_high(low):
    """Return the greatest mark that a scale with this lowest one can have."""
    return min(low + MOST_WIDTH, MOST_HIGH)


def without_middle(report):
    """Return the report, but for its middle, which is not told."""
    return Report(
        report.low, report.high, report.size, report.mean, report.spread, report.kind, report.least, report.greatest
    )


def _check_scale(low, high):
    if not is_int_within(low, LEAST_LOW, MOST_HIGH - 1):
        raise BadScale("low is no integer that can stand there")
    if not is_int_within(high, low + 1, most_high(low)):
        raise BadScale("high is no integer that can stand there")


def _check_size(size):
    if not is_int_within(size, 1, MOST_SIZE):
        raise BadSize("size is no integer that can stand there")


def _check_prints(mean, spread, middle):
    if not is_print(mean):
        raise BadPrint("mean")
    if spread is not None and not is_print_from_zero(spread):
        raise BadPrint("spread")
    if middle is not None and not is_print(middle):
        raise BadPrint("middle")


def _check_kind(kind, spread, size):
    if kind not in KINDS:
        raise BadKind("kind is neither sample nor whole")
    if kind == "sample" and spread is not None and size == 1:
        raise BadKind("one mark has no spread of a sample")


def _check_ends(low, high, least, greatest):
    if least is not None and not is_int_within(least, low, high):
        raise BadEnd("least")
    lowest = low if least is None else least
    if greatest is not None and not is_int_within(greatest, lowest, high):
        raise BadEnd("greatest")

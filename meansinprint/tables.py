"""Tables of all sums of squares that go with the sums of a few marks."""

from meansinprint.ends import mark_range, told_marks
from meansinprint.errors import TooMany

MOST_MARKS = 40


def check_few(report):
    """Raise TooMany if the report has more marks than these tables are made for."""
    if report.size > MOST_MARKS:
        raise TooMany("there are more than 40 marks")


class SquareTable:
    """All sums of squares of lists with the scale and the ends of a report, of at most so many marks."""

    def __init__(self, report, most):
        self._report = report
        self._least, greatest = mark_range(report)
        self._layers = _square_layers(greatest - self._least, most)

    def squares_within(self, size, total, bounds):
        """Return the ascending list of those within bounds, both included, by a total that some such list has."""
        told = told_marks(self._report, size)
        many = size - len(told)
        over = total - sum(told) - many * self._least
        text = f"{self._layers[many][over]:b}"
        letters = text[::-1]
        # The square of least + k is least * least + 2 * least * k + k * k; of the last the layers tell the sums.
        first = sum([mark * mark for mark in told]) + self._least * (many * self._least + 2 * over)
        start = max(bounds[0] - first, 0)
        # A sum of squares is even just if the sum is.
        start += (start - over) & 1
        stop = min(bounds[1] - first + 1, len(letters))
        return [first + at for at in range(start, stop, 2) if letters[at] == "1"]


def _square_layers(width, most):
    """Return a list of dicts, for 0 to most marks from 0 to width: by each sum, its sums of squares as set bits."""
    layers = [{0: 1}]
    for _ in range(most):
        layers.append(_one_mark_more(layers[-1], width))
    return layers


def _one_mark_more(layer, width):
    found = {}
    for total, bits in layer.items():
        for mark in range(width + 1):
            found[total + mark] = found.get(total + mark, 0) | (bits << mark * mark)
    return found

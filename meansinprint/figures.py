"""Prints of a mean that differ from the told one by figures alone."""

from meansinprint.prints import UNITS, digits_of, write_print


class OtherMeans:
    """The prints with sign, point and length of a report's mean as which the means by some sums can be printed.

    Each is told by its figures alone, read as one integer.
    """

    def __init__(self, report, sums):
        figures = report.mean.removeprefix("-").replace(".", "")
        self._digits = digits_of(report.mean)
        self._sign = -1 if report.mean.startswith("-") else 1
        self._figures = [int(figure) for figure in figures]
        self._size = report.size
        self._sums = sums
        self._lowest = 1 if self._sign < 0 else 0
        if len(figures) > self._digits + 1:
            # The first of several figures ahead of the point is no nought.
            self._lowest = UNITS[len(figures) - 1]

    def changed(self, many):
        """Return the list of those with just so many figures that are others, ascending as strings."""
        rows = [(0, 0)]
        for at, old in enumerate(self._figures):
            rows = self._with_figure(rows, old, many, UNITS[len(self._figures) - 1 - at])
        return [write_print(self._sign * known, self._digits) for changed, known in rows if changed == many]

    def _with_figure(self, rows, old, many, step):
        """Return the rows (figures changed, figures so far) with the next figure, if some of these prints can be."""
        return [
            (changed + int(figure != old), known * 10 + figure)
            for changed, known in rows for figure in range(10)
            if changed + int(figure != old) <= many and self._has_some(known * 10 + figure, step)
        ]

    def _has_some(self, known, step):
        """Tell whether some print can be that begins with these figures, step telling how many there are of these."""
        least, most = max(known * step, self._lowest), known * step + step - 1
        if least > most:
            return False
        if self._sign < 0:
            least, most = -most, -least
        # Each number between two neighbours can be printed as one of them, so the first and the last tell all sums.
        parts = 2 * UNITS[self._digits]
        first = max(self._sums[0], -((1 - 2 * least) * self._size // parts))
        return first <= min(self._sums[1], (2 * most + 1) * self._size // parts)

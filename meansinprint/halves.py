"""All lists that fit a report, each put together from a half of lower marks and one of upper marks."""

from math import comb

from meansinprint.counts import mark_at
from meansinprint.ends import mark_range, told_marks
from meansinprint.errors import TooMany
from meansinprint.prints import can_print
from meansinprint.spreads import spread_room
from meansinprint.sums import sum_range

MOST_LISTS = 20000


def fitting_rows(report):
    """Return the tuples (sum, counts) of all lists that fit, in the ascending order of the lists as tuples."""
    width = report.high - report.low
    if comb(report.size + width, width) > MOST_LISTS:
        raise TooMany("the scale has more than 20000 lists of this size")
    return [] if sum_range(report) is None else Halves(report).rows()


class Halves:
    """The halves of the lists of a report, for which there must be some by scale, size, ends and mean.

    Marks are counted from the least one that can be, which leaves the spread as it is. A row of an unfinished half is
    the tuple (marks still to come, sum, sum of squares, counts), one with more of a mark ahead of one with less. The
    sums of told ends are in all lower halves. Places in the middle that no mark of a half has yet are open.
    """

    def __init__(self, report):
        low, high = mark_range(report)
        told = [mark - low for mark in told_marks(report, report.size)]
        self._size = report.size
        self._base = report.size * low
        self._width = high - low
        self._told = [told.count(mark) for mark in range(self._width + 1)]
        self._first = (report.size - len(told), sum(told), sum([mark * mark for mark in told]), ())
        self._sums = [total - self._base for total in sum_range(report)]
        self._room = spread_room(report, report.size)
        self._front, self._back = (0,) * (low - report.low), (0,) * (report.high - high)
        # With two marks alone there would be as many halves as lists.
        self._split = (self._width + 1) // 2 if self._width > 1 else 0
        self._places, self._middles = _middle_places(report, low, high)

    def rows(self):
        """Return the tuples (sum, counts) of the lists that fit."""
        rows = [self._first]
        for mark in range(self._split):
            rows = self._more_rows(rows, mark, self._sums)
        bounds = _bounds_by_left(rows)
        uppers = {}
        found = []
        for row in rows:
            places, known = _open_places(self._places, 0, 0, row[3])
            if places or known in self._middles:
                key = row[0], places, known if places else 0
                if key not in uppers:
                    uppers[key] = self._upper_rows(row[0], bounds[row[0]], places, known)
                found.extend(self._joined(row, uppers[key]))
        return found

    def _joined(self, row, uppers):
        """Return the tuples (sum, counts) of the lists that fit, of this lower half and one of these upper ones."""
        _, total, square, counts = row
        head = self._front + counts
        base = self._base + total
        first, last = self._sums[0] - total, self._sums[1] - total
        # What the spread goes by is that of both halves, but for twice the product of their sums.
        apart, twice = self._size * square - total * total, 2 * total
        least, greatest = self._room[0] - apart, self._room[1] - apart
        return [
            (base + more, head + others) for more, beside, others in uppers
            if first <= more <= last and least <= beside - twice * more <= greatest
        ]

    def _upper_rows(self, left, bounds, places, known):
        """Return the upper halves with so many free marks that lower ones with sums within bounds can go with.

        They are tuples (sum, size * sum of squares - sum * sum, counts). The open places of the middle are told, and
        the sum of the marks in the others.
        """
        if self._width == 0:
            return [(0, 0, (self._told[0] + left, *self._back))] if known in self._middles else []
        sums = self._sums[0] - bounds[1], self._sums[1] - bounds[0]
        rows = [(left, 0, 0, ())]
        for mark in range(self._split, self._width - 1):
            rows = self._more_rows(rows, mark, sums)
        found = []
        for row in rows:
            found.extend(self._closed_rows(row, sums, places, known))
        return found

    def _closed_rows(self, row, sums, places, known):
        """Return what _upper_rows returns, for one row that lacks no more than the two greatest marks."""
        left, total, square, counts = row
        mark = self._width - 1
        places, known = _open_places(places, known, self._split, counts)
        less, more = self._told[mark], left + self._told[self._width]
        choices = self._choices(row, mark, sums)
        if places:
            choices = [many for many in choices if self._is_middle(places, known, less + many)]
        elif known not in self._middles:
            return []
        # If all marks to come were the greatest one; each one that is not takes a bit from the sums.
        total, square = total + left * self._width, square + left * self._width * self._width
        step = self._width * self._width - mark * mark
        return [
            (total - many, self._size * (square - many * step) - (total - many) * (total - many),
             (*counts, less + many, more - many, *self._back))
            for many in choices
        ]

    def _is_middle(self, places, known, many):
        """Tell whether the middle is as told if so many of the marks to come are the greatest but one."""
        return known + sum([self._width - int(place < many) for place in places]) in self._middles

    def _more_rows(self, rows, mark, sums):
        """Return the rows with the next mark put to them in all ways."""
        told = self._told[mark]
        return [
            (row[0] - many, row[1] + many * mark, row[2] + many * mark * mark, (*row[3], told + many))
            for row in rows for many in self._choices(row, mark, sums)
        ]

    def _choices(self, row, mark, sums):
        """Return the list of how often the mark can come so that some of the sums can still be, most often first."""
        left, total, _, _ = row
        must = total + left * (mark + 1) - sums[1]
        can = (total + left * self._width - sums[0]) // (self._width - mark)
        return list(range(min(left, can), max(0, must) - 1, -1))


def _middle_places(report, low, high):
    """Return the places in the middle, and a dict of the sums that their marks, counted from low, can have together."""
    if report.middle is None:
        # No mark needs be looked at: of no places the sum is 0.
        return (), {0: True}
    sums = [total for total in range(2 * low, 2 * high + 1) if can_print(total, 2, report.middle)]
    # With an odd number of marks both places are the one in the middle.
    return ((report.size - 1) // 2, report.size // 2), {total - 2 * low: True for total in sums}


def _open_places(places, known, first, counts):
    """Return which places stay open behind counts from the first mark on, and the sum of the marks in the others."""
    ahead = sum(counts)
    known = known + sum([mark_at(first, counts, place) for place in places if place < ahead])
    return tuple([place - ahead for place in places if place >= ahead]), known


def _bounds_by_left(rows):
    """Return a dict of the numbers of marks still to come: the least and the greatest sum of the rows with so many."""
    found = {}
    for left, total, _, _ in rows:
        least, greatest = found.get(left, (total, total))
        found[left] = min(least, total), max(greatest, total)
    return found

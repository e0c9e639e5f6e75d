"""Lists that are filled in, mark by mark."""

from meansinprint.errors import BadMark, Full
from meansinprint.halves import fitting_rows
from meansinprint.integers import is_int_within


class Filler:
    """The marks so far, with what they leave of the lists of a report."""

    def __init__(self, report):
        self._report = report
        self._lists = [counts for _, counts in fitting_rows(report)]
        self._marks = []
        self._undone = []
        self._have = [0] * (report.high - report.low + 1)
        self._remaining = self._lists

    def __len__(self):
        return len(self._marks)

    @property
    def report(self):
        """The report."""
        return self._report

    @property
    def marks(self):
        """The tuple of the marks in the order in which they came."""
        return tuple(self._marks)

    def add(self, mark):
        """Add a mark, and return how many lists are left."""
        if not is_int_within(mark, self._report.low, self._report.high):
            raise BadMark("mark is no mark of the scale")
        if len(self._marks) == self._report.size:
            raise Full("there are as many marks as the report has")
        self._undone = []
        self._put(mark)
        return self.left()

    def left(self):
        """Return how many of the report's lists have all marks so far, each as often at least."""
        return len(self._remaining)

    def options(self):
        """Return the ascending list of the marks that can be added so that some lists are left."""
        rows = self._remaining
        low = self._report.low
        # If no list is left there is no column, either.
        return [low + at for at, column in enumerate(zip(*rows)) if max(column) > self._have[at]]

    def undo(self):
        """Take the last mark back, and return whether there was one."""
        if not self._marks:
            return False
        mark = self._marks.pop()
        self._undone.append(mark)
        self._have[mark - self._report.low] -= 1
        # Keeping what was left at each step would take too much room for thousands of marks.
        self._remaining = _lists_with(self._lists, self._have)
        return True

    def redo(self):
        """Add the last mark that was taken back again, and return whether there was one."""
        if not self._undone:
            return False
        self._put(self._undone.pop())
        return True

    def _put(self, mark):
        at = mark - self._report.low
        self._marks.append(mark)
        self._have[at] += 1
        many = self._have[at]
        self._remaining = [counts for counts in self._remaining if counts[at] >= many]


def _lists_with(lists, have):
    """Return those of the lists, told by counts, that have each mark so often at least."""
    for at, many in enumerate(have):
        if many > 0:
            lists = [counts for counts in lists if counts[at] >= many]
    return lists

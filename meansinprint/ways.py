"""In how many ways lists go on from mark to mark, so that they are numbered without going through them."""

from meansinprint.ends import mark_range, told_marks
from meansinprint.spreads import spread_room
from meansinprint.sums import sum_range


class Ways:
    """The lists that fit a report, whatever its middle, by the states behind some of the marks of the scale.

    A state is the tuple of how many marks are still to come, the sum so far, and the sum of squares so far. Marks are
    counted from the least one that can be here, which leaves the spread as it is.
    """

    def __init__(self, report):
        self._size = report.size
        self._least, greatest = mark_range(report)
        self._width = greatest - self._least
        self._room = spread_room(report, report.size)
        self._told = told_marks(report, report.size)
        found = sum_range(report)
        self._sums = () if found is None else tuple([total - report.size * self._least for total in found])
        self._ways = self._count() if self._sums else []

    def many(self):
        """Return how many lists fit."""
        return sum(list(self._ways[0].values())) if self._ways else 0

    def kth(self, k):
        """Return the list that has k others ahead of it, of which there must be more."""
        state = self._first_state()
        marks = list(self._told)
        for mark in range(self._width):
            many = state[0]
            # The more of this mark, the further ahead is the list.
            while k >= self._ways_on(state, mark, many):
                k -= self._ways_on(state, mark, many)
                many -= 1
            marks.extend([self._least + mark] * many)
            state = _put(state, mark, many)
        marks.extend([self._least + self._width] * state[0])
        return tuple(sorted(marks))

    def rank(self, marks):
        """Return how many lists are ahead of one that fits."""
        ahead = 0
        state = self._first_state()
        for mark in range(self._width):
            known = self._least + mark
            here = marks.count(known) - self._told.count(known)
            ahead += sum([self._ways_on(state, mark, many) for many in range(here + 1, state[0] + 1)])
            state = _put(state, mark, here)
        return ahead

    def _first_state(self):
        over = [mark - self._least for mark in self._told]
        return self._size - len(over), sum(over), sum([mark * mark for mark in over])

    def _ways_on(self, state, mark, many):
        """Return in how many ways lists go on from the state if the mark comes so often."""
        return self._ways[mark + 1].get(_put(state, mark, many), 0)

    def _count(self):
        """Return for each mark a dict of the states that the marks ahead of it leave: in how many ways they go on."""
        levels = [[self._first_state()]]
        for mark in range(self._width):
            levels.append(self._next_states(levels[mark], mark))
        ways = [{state: 1 for state in levels[self._width] if self._fits(state)}]
        for mark in reversed(range(self._width)):
            ways.append(self._ways_before(levels[mark], mark, ways[-1]))
        return ways[::-1]

    def _next_states(self, states, mark):
        found = {_put(state, mark, many): True for state in states for many in self._choices(state, mark)}
        return list(found)

    def _ways_before(self, states, mark, following):
        return {
            state: sum([following.get(_put(state, mark, many), 0) for many in self._choices(state, mark)])
            for state in states
        }

    def _choices(self, state, mark):
        """Return the list of how often the mark can come, so that the sum can still be one of the report."""
        left, total, _ = state
        least, greatest = self._sums
        must = total + left * (mark + 1) - greatest
        can = (total + left * self._width - least) // (self._width - mark)
        return list(range(max(0, must), min(left, can) + 1))

    def _fits(self, state):
        """Tell whether the list fits in which all marks still to come are the greatest one."""
        _, total, square = _put(state, self._width, state[0])
        least, greatest = self._room
        return least <= self._size * square - total * total <= greatest


def _put(state, mark, many):
    """Return the state with the mark put to it so often."""
    left, total, square = state
    return left - many, total + many * mark, square + many * mark * mark

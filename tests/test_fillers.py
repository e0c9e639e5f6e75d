"""Point [14]: fillers, step by step, against all lists of the report."""

import unittest
from itertools import product
from random import Random

from meansinprint.errors import BadMark, Full, TooMany
from meansinprint.fillers import Filler
from meansinprint.reports import Report
from tests import oracle
from tests.short_reports import all_told


class Model:
    """A filler told the long way, by the lists that fit."""

    def __init__(self, report, rows):
        self.report, self.rows = report, rows
        self.marks, self.undone = [], []

    def count(self, marks):
        return sum(all(row.count(mark) >= marks.count(mark) for mark in marks) for row in self.rows)

    def state(self):
        scale = range(self.report.low, self.report.high + 1)
        options = [mark for mark in scale if self.count([*self.marks, mark])]
        return self.count(self.marks), options, tuple(self.marks), len(self.marks)

    def step(self, name, *told):
        """What a step returns, or the class of what it raises."""
        if name == "add":
            mark = told[0]
            if isinstance(mark, bool) or not isinstance(mark, int) or not self.report.low <= mark <= self.report.high:
                return BadMark
            if len(self.marks) == self.report.size:
                return Full
            self.marks.append(mark)
            self.undone = []
            return self.count(self.marks)
        source, target = (self.marks, self.undone) if name == "undo" else (self.undone, self.marks)
        if source:
            target.append(source.pop())
            return True
        return False


def state(filler):
    """All that a filler tells."""
    return filler.left(), filler.options(), filler.marks, len(filler)


def step(filler, name, *told):
    """What a step returns, or the class of what it raises."""
    try:
        return getattr(filler, name)(*told)
    except ValueError as error:
        return type(error)


class StepsTest(unittest.TestCase):
    def check(self, report, rows, steps):
        """Compare a filler with the model behind each of the steps."""
        filler, model = Filler(report), Model(report, rows)
        self.assertEqual(state(filler), model.state())
        for at, told in enumerate(steps):
            facts = (oracle.facts(report), steps[:at + 1])
            found, expected = step(filler, *told), model.step(*told)
            self.assertEqual((type(found), found), (type(expected), expected), facts)
            self.assertEqual(state(filler), model.state(), facts)
        self.assertIs(filler.report, report)

    def test_all_orders_of_few_steps(self):
        steps = (("add", 1), ("add", 3), ("add", 0), ("undo",), ("redo",))
        report = Report(1, 3, 3, "2.0")
        rows = [(1, 2, 3), (2, 2, 2)]
        for order in product(steps, repeat=5):
            self.check(report, rows, order)

    def test_undo_and_redo_in_all_orders(self):
        steps = (("undo",), ("redo",), ("add", 2))
        report = Report(1, 3, 4, "2.0", "0.82")
        self.assertEqual(step(Filler(report), "add", 1), 1)
        for order in product(steps, repeat=5):
            self.check(report, [(1, 2, 2, 3)], (("add", 1), ("add", 2), ("add", 3), *order, ("redo",), ("redo",)))

    def test_short_lists(self):
        source = Random(7)
        seen = {}
        for report, marks in all_told(12):
            rows = [row for row in marks if oracle.fits(report, row)]
            steps = []
            # Mostly marks of one list, as others leave none soon.
            likely = source.choice(rows or marks)
            for _ in range(12):
                mark = source.choice((*likely, *likely, source.randrange(report.low - 1, report.high + 2)))
                steps.append(source.choice((("add", mark), ("add", mark), ("undo",), ("redo",))))
            self.check(report, rows, steps)
            seen[rows != []] = seen.get(rows != [], 0) + 1
        self.assertGreater(min(seen.values()), 50)
        self.assertEqual(len(seen), 2)


class FillerTest(unittest.TestCase):
    def test_none_fits(self):
        filler = Filler(Report(1, 5, 3, "3.1"))
        self.assertEqual(state(filler), (0, [], (), 0))
        self.assertEqual(filler.add(3), 0)
        self.assertEqual(state(filler), (0, [], (3,), 1))

    def test_order_of_marks(self):
        filler = Filler(Report(1, 5, 3, "3.0"))
        self.assertEqual([filler.add(mark) for mark in (5, 1, 3)], [2, 1, 1])
        self.assertEqual(state(filler), (1, [], (5, 1, 3), 3))

    def test_marks_of_told_ends_and_middle(self):
        filler = Filler(Report(1, 5, 4, "3.0", None, "sample", 2, 5, "2.5"))
        self.assertEqual(state(filler), (1, [2, 3, 5], (), 0))
        self.assertEqual([filler.add(2), filler.options(), filler.add(2), filler.options()], [1, [2, 3, 5], 1, [3, 5]])
        self.assertEqual([filler.add(4), filler.options()], [0, []])

    def test_one_mark(self):
        filler = Filler(Report(-1, 1, 1, "0", "0", "whole"))
        self.assertEqual(state(filler), (1, [0], (), 0))
        self.assertEqual([filler.add(0), filler.options(), filler.undo(), filler.add(1)], [1, [], True, 0])
        self.assertRaises(Full, filler.add, 1)
        filler = Filler(Report(1, 5, 1, "3", None, "sample", 3, 4))
        self.assertEqual(state(filler), (0, [], (), 0))

    def test_nothing_to_undo_or_redo(self):
        filler = Filler(Report(1, 5, 3, "3.0"))
        self.assertIs(filler.undo(), False)
        self.assertIs(filler.redo(), False)
        filler.add(1)
        self.assertIs(filler.redo(), False)
        self.assertIs(filler.undo(), True)
        self.assertIs(filler.undo(), False)
        self.assertIs(filler.redo(), True)
        self.assertIs(filler.redo(), False)
        self.assertEqual(filler.marks, (1,))

    def test_add_behind_undo(self):
        filler = Filler(Report(1, 5, 3, "3.0"))
        for mark in (1, 3, 5):
            filler.add(mark)
        self.assertEqual([filler.undo(), filler.undo(), filler.add(4), filler.redo()], [True, True, 1, False])
        self.assertEqual(filler.marks, (1, 4))
        # Another mark 4 is another one, too, though it is worth as much.
        self.assertEqual([filler.add(4), filler.undo(), filler.undo(), filler.add(4)], [1, True, True, 1])
        self.assertIs(filler.redo(), False)
        self.assertEqual(filler.marks, (1, 4))

    def test_refused_steps_change_nothing(self):
        filler = Filler(Report(1, 5, 2, "3.0"))
        filler.add(1)
        filler.add(5)
        filler.undo()
        before = state(filler)
        for mark in (*oracle.ODD_VALUES, 0, 6, -1, 10 ** 30, "1", (1,)):
            self.assertRaises(BadMark, filler.add, mark)
            self.assertEqual(state(filler), before)
        self.assertIs(filler.redo(), True)
        self.assertRaises(Full, filler.add, 3)
        self.assertEqual(filler.marks, (1, 5))
        self.assertEqual([filler.undo(), filler.undo(), filler.redo()], [True, True, True])
        self.assertRaises(BadMark, filler.add, 6)
        self.assertEqual([filler.redo(), filler.redo(), filler.marks], [True, False, (1, 5)])

    def test_bad_mark_is_ahead_of_full(self):
        filler = Filler(Report(0, 1, 1, "0"))
        filler.add(1)
        for mark in (True, False, None, 2, -1, "0"):
            self.assertRaises(BadMark, filler.add, mark)
        self.assertRaises(Full, filler.add, 0)
        self.assertRaises(Full, filler.add, 1)
        self.assertEqual(filler.marks, (1,))

    def test_full_filler_with_marks_to_redo(self):
        filler = Filler(Report(0, 1, 2, "0.5"))
        self.assertEqual([filler.add(0), filler.add(1), filler.undo()], [1, 1, True])
        self.assertEqual([filler.redo(), filler.redo(), filler.marks], [True, False, (0, 1)])
        self.assertRaises(Full, filler.add, 0)
        self.assertIs(filler.undo(), True)
        self.assertIs(filler.redo(), True)

    def test_properties(self):
        report = Report(1, 5, 3, "3.0")
        filler = Filler(report)
        self.assertEqual(filler.marks, ())
        self.assertIs(type(filler.marks), tuple)
        kept = filler.marks
        filler.add(4)
        self.assertEqual((kept, filler.marks), ((), (4,)))
        for name in ("report", "marks"):
            self.assertIsInstance(vars(Filler)[name], property)
            with self.assertRaises(AttributeError):
                setattr(filler, name, ())
        self.assertIs(filler.report, report)

    def test_what_is_returned_is_new(self):
        filler = Filler(Report(1, 5, 3, "3.0"))
        found = filler.options()
        self.assertIs(type(found), list)
        found.append(9)
        self.assertEqual(filler.options(), found[:-1])
        self.assertEqual((filler.left(), filler.left()), (5, 5))

    def test_fillers_of_one_report(self):
        report = Report(1, 5, 3, "3.0")
        one, other = Filler(report), Filler(report)
        one.add(2)
        one.undo()
        self.assertEqual(state(other), (5, [1, 2, 3, 4, 5], (), 0))
        self.assertIs(other.redo(), False)
        self.assertNotEqual(one, other)
        self.assertEqual(oracle.facts(report), oracle.facts(Report(1, 5, 3, "3.0")))

    def test_no_equality_with_others(self):
        filler = Filler(Report(1, 5, 3, "3.0"))
        for value in (*oracle.ODD_VALUES, 0, filler.report):
            self.assertIs(filler == value, False)

    def test_just_20000_lists(self):
        filler = Filler(Report(0, 1, 19999, "0.0000"))
        self.assertEqual(state(filler), (1, [0], (), 0))
        filler = Filler(Report(0, 1, 19999, "0"))
        self.assertEqual([filler.left(), filler.add(1), filler.add(1), filler.options()], [10000, 9999, 9998, [0, 1]])
        self.assertEqual([filler.undo(), filler.left(), filler.add(0)], [True, 9999, 9999])
        for report in (Report(0, 1, 20000, "0.0000"), Report(0, 1, 20000, "7"), Report(0, 2, 199, "0.000"),
                       Report(0, 11, 7, "5", None, "sample", 5, 5), Report(0, 1, 10 ** 6, "0.5")):
            self.assertRaises(TooMany, Filler, report)

    def test_thousands_of_marks(self):
        filler = Filler(Report(0, 1, 3000, "0.5"))
        # The mean is from 0.45 to 0.55.
        self.assertEqual(filler.left(), 301)
        for many in range(1, 1651):
            self.assertEqual(filler.add(1), 301 if many <= 1350 else 1651 - many)
        self.assertEqual((filler.left(), filler.options()), (1, [0]))
        self.assertEqual((filler.add(1), filler.options()), (0, []))
        for _ in range(1651):
            self.assertIs(filler.undo(), True)
        self.assertEqual((filler.left(), filler.undo(), filler.marks), (301, False, ()))
        for _ in range(1651):
            self.assertIs(filler.redo(), True)
        self.assertEqual((filler.left(), filler.redo(), len(filler)), (0, False, 1651))


if __name__ == "__main__":
    unittest.main()

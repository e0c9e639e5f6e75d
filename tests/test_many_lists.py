"""Points [10], [11], [12] and [14] for scales with nearly 20000 lists, against all of them, one by one."""

import unittest
from fractions import Fraction

from meansinprint.changing import without
from meansinprint.errors import TooMany
from meansinprint.fillers import Filler
from meansinprint.lists import all_lists, count_lists, first_list, fits, often, sure_marks
from meansinprint.reports import Report
from tests import oracle

# low, high and size, with what is told of some lists.
TOLD = {
    (1, 4, 47): (("2", "1"), ("2.0", "0.9", "whole", 1), ("2.51", "1.10", "sample", 1, 4, "2.5"), ("2.9", "0")),
    (0, 11, 6): (("5", "2"), ("5.5", "2.0", "whole", None, 9), ("5", "2", "sample", None, None, "5"), ("11", None)),
    (1, 3, 198): (("2.0",), ("2", "1"), ("2", "0.7", "whole", 1, 3, "2"), ("2.00", None, "sample", 2),
                  ("2", None, "sample", None, None, "2")),
    (-12, -8, 23): (("-10", "1"), ("-10.0", "1.3", "whole", None, -9, "-10")),
    (-3, 3, 12): (("0.0", "2.0"), ("0", "2", "sample", -3, 3, "0.5"), ("-0.5", "2", "whole", None, None, "-1")),
    (40, 48, 8): (("44.0", "2.5", "sample", None, None, "44.5"), ("44", "3", "whole", 40)),
    (0, 1, 300): (("0.4", "0.5"), ("0.5", None, "sample", 0, 1, "0.5"), ("0", None, "sample", None, None, "0")),
}


def fitting(report, marks):
    """Those of the lists that fit."""
    known = {}
    found = []
    for row in marks:
        sums = oracle.pair_of(row)
        if sums not in known:
            known[sums] = oracle.gives(report, *sums)
        if known[sums] and oracle.ends_fit(report, row):
            if report.middle is None or oracle.can_print(oracle.middle_of(row), report.middle):
                found.append(row)
    return found


class ManyListsTest(unittest.TestCase):
    def check(self, report, rows):
        """Compare all that is told of the lists."""
        self.assertEqual(count_lists(report), len(rows))
        self.assertEqual(first_list(report), rows[0] if rows else None)
        if len(rows) <= 200:
            self.assertEqual(all_lists(report), rows)
        else:
            self.assertRaises(TooMany, all_lists, report)
        scale = range(report.low, report.high + 1)
        counts = [[row.count(mark) for row in rows] for mark in scale]
        found = [(mark, min(many), max(many)) for mark, many in zip(scale, counts)] if rows else None
        self.assertEqual(often(report), found)
        self.assertEqual(sure_marks(report), None if found is None else [mark for mark, few, _ in found if few])
        for mark, many in zip(scale, counts):
            sums = {sum(row) - mark for row, often_there in zip(rows, many) if often_there}
            means = [Fraction(total, report.size - 1) for total in sums]
            self.assertEqual(without(report, mark, 2), oracle.prints_of(means, 2))
        for row in rows[::997]:
            self.assertIs(fits(report, row[::-1]), True)
        self.check_filler(report, rows)

    def check_filler(self, report, rows):
        """Compare some steps of a filler."""
        filler = Filler(report)
        self.assertEqual(filler.left(), len(rows))
        if rows:
            likely = rows[len(rows) // 2]
            for mark in likely[::max(1, len(likely) // 5)]:
                have = (*filler.marks, mark)
                left = [row for row in rows if all(row.count(each) >= have.count(each) for each in {*have})]
                self.assertEqual(filler.add(mark), len(left))
                options = [mark for mark in range(report.low, report.high + 1)
                           if any(row.count(mark) > have.count(mark) for row in left)]
                self.assertEqual(filler.options(), options)
            self.assertIs(filler.undo(), True)
            self.assertIs(filler.redo(), True)
            self.assertEqual((filler.left(), filler.options()), (len(left), options))

    def test_all(self):
        seen = {}
        for scale, told in TOLD.items():
            marks = oracle.multisets(*scale)
            self.assertLessEqual(len(marks), 20000)
            for facts in told:
                report = Report(*scale, *facts)
                rows = fitting(report, marks)
                with self.subTest(oracle.facts(report)):
                    self.check(report, rows)
                seen[min(len(rows), 201)] = True
        self.assertEqual((min(seen), max(seen)), (0, 201))


if __name__ == "__main__":
    unittest.main()

"""The examples of the document."""

import unittest

from meansinprint.changing import joined_prints, misprints, shared_sizes, without
from meansinprint.far import far_verdict
from meansinprint.fillers import Filler
from meansinprint.groups import rest_prints, split_pairs
from meansinprint.judging import pairs, sizes, verdict
from meansinprint.lists import all_lists, count_lists, first_list, fits, often, sure_marks
from meansinprint.numbering import kth_list, many_lists, rank_list
from meansinprint.papers import paper, right_paper
from meansinprint.printable import nearest_prints, print_pairs
from meansinprint.reports import Report
from meansinprint.squares import gap, squares
from meansinprint.sums import can_mean, sizes_for, square_range, sum_range
from meansinprint.texts import read, write


class ExamplesTest(unittest.TestCase):
    def test_sums(self):
        self.assertIsNone(sum_range(Report(1, 5, 10, "3.47")))
        self.assertEqual(sum_range(Report(1, 5, 10, "3.40")), (34, 34))
        self.assertIs(can_mean(Report(1, 5, 10, "3.47")), False)
        self.assertEqual(sizes_for(Report(1, 5, 1, "3.47"), 20), [15, 17, 19])
        self.assertEqual(square_range(Report(1, 5, 3, "3"), 9), (27, 35))
        self.assertEqual(sum_range(Report(1, 5, 3, "3")), (8, 10))
        self.assertIsNone(square_range(Report(1, 5, 3, "3"), 16))
        self.assertEqual(sum_range(Report(1, 5, 3, "4", None, "sample", 1)), (11, 11))
        self.assertEqual(sum_range(Report(0, 5, 2, "0")), (0, 1))

    def test_squares_and_judging(self):
        self.assertEqual(squares(Report(1, 5, 3, "3"), 9), [27, 29, 33, 35])
        self.assertEqual(gap(Report(1, 5, 3, "3"), 9), 31)
        self.assertEqual(pairs(Report(1, 5, 10, "3.4", "1.26")), [(34, 130)])
        self.assertEqual(verdict(Report(1, 5, 10, "3.4", "1.26")), "good")
        self.assertEqual(verdict(Report(1, 5, 10, "3.4", "1.30")), "spread")
        self.assertEqual(verdict(Report(1, 5, 3, "3.0", "1.41")), "gap")
        self.assertEqual(verdict(Report(1, 5, 10, "3.47", "1.26")), "mean")
        self.assertEqual(sizes(Report(1, 5, 3, "3.0", "1.41"), 4), [2, 4])

    def test_lists(self):
        plain, told = Report(1, 5, 3, "3.0"), Report(1, 5, 3, "3.0", None, "sample", 1)
        self.assertEqual(all_lists(plain), [(1, 3, 5), (1, 4, 4), (2, 2, 5), (2, 3, 4), (3, 3, 3)])
        self.assertEqual(count_lists(Report(1, 5, 3, "3.0", None, "sample", None, None, "3")), 3)
        self.assertEqual(first_list(told), (1, 3, 5))
        self.assertEqual(often(told), [(1, 1, 1), (2, 0, 0), (3, 0, 1), (4, 0, 2), (5, 0, 1)])
        self.assertEqual(sure_marks(told), [1])
        self.assertIs(fits(told, [5, 1, 3]), True)
        self.assertIs(fits(told, (2, 2, 5)), False)
        self.assertIsNone(first_list(Report(1, 5, 3, "3.1")))

    def test_changing(self):
        plain = Report(1, 5, 3, "3.0")
        self.assertEqual(without(plain, 5, 1), ["2.0"])
        self.assertEqual(without(plain, 1, 1), ["4.0"])
        self.assertEqual(joined_prints(plain, Report(1, 5, 2, "4.5"), 2), ["3.60"])
        self.assertEqual(shared_sizes((Report(1, 5, 1, "3.47"), Report(1, 5, 1, "2.53")), 20), [15, 17, 19])
        self.assertEqual(misprints(Report(1, 5, 10, "3.47")), (1, ["3.40"]))
        self.assertEqual(misprints(plain), (0, ["3.0"]))
        self.assertEqual(misprints(Report(1, 2, 1, "7")), (1, ["1", "2"]))

    def test_fillers(self):
        filler = Filler(Report(1, 5, 3, "3.0"))
        found = [filler.left(), filler.add(2), filler.options(), filler.add(2), filler.options(), filler.marks]
        self.assertEqual([*found, filler.undo()], [5, 2, [2, 3, 4, 5], 1, [5], (2, 2), True])
        found = [filler.left(), len(filler), filler.redo(), filler.left(), filler.add(1), filler.options()]
        self.assertEqual(found, [2, 1, True, 1, 0, []])

    def test_far_and_papers(self):
        self.assertEqual(far_verdict(Report(1, 5, 10, "3.47")), "mean")
        self.assertEqual(far_verdict(Report(1, 5, 3, "3.0", "1.41")), "open")
        self.assertEqual(far_verdict(Report(1, 5, 1000, "3.5", "1.2")), "open")
        self.assertEqual(far_verdict(Report(1, 5, 1000, "4.9", "1.5")), "spread")
        self.assertEqual(paper(Report(1, 5, 3, "3.0")), ("list", (1, 3, 5)))
        bad = Report(1, 2, 2, "1.7")
        self.assertEqual(paper(bad), ("layers", (((0, 0),), ((1, 1), (2, 4)), ((2, 2), (3, 5), (4, 8)))))
        self.assertIs(right_paper(bad, paper(bad)), True)
        self.assertIs(right_paper(bad, ("list", (1, 2))), False)
        self.assertEqual(paper(Report(1, 5, 1, "3", None, "sample", 1, 5)), ("ends",))

    def test_texts(self):
        report = Report(1, 5, 10, "3.4", "1.26", "sample", 1)
        self.assertEqual(write(report), "marks 1 5 size 10 mean 3.4 spread 1.26 sample least 1")
        self.assertIs(read(write(report)) == report, True)
        self.assertEqual(read("marks 0 9 size 4 mean 2.5 spread none whole middle -1").middle, "-1")

    def test_numbering_groups_and_printable(self):
        plain, whole = Report(1, 5, 3, "3.0"), Report(1, 5, 3, "3.0", "2.0")
        found = [many_lists(plain), kth_list(plain, 2), rank_list(plain, (2, 3, 4)), rank_list(plain, (2, 3, 5))]
        self.assertEqual(found, [5, (2, 2, 5), 3, None])
        found = split_pairs(whole, Report(1, 5, 1, "3"), Report(1, 5, 2, "3.0"))
        self.assertEqual(found, [((3, 9), (6, 26))])
        self.assertEqual(rest_prints(whole, Report(1, 5, 1, "3"), 1, 1), [("3.0", "2.8")])
        expected = [("1.0", "0.0"), ("1.5", "0.7"), ("2.0", "0.0"), ("2.0", "1.4"), ("2.5", "0.7"), ("3.0", "0.0")]
        self.assertEqual(print_pairs(Report(1, 3, 2, "0"), 1, 1), expected)
        expected = (2, [("1.0", "0.0"), ("1.5", "0.7")])
        self.assertEqual(nearest_prints(Report(1, 3, 2, "1.6", "0.8")), expected)


if __name__ == "__main__":
    unittest.main()

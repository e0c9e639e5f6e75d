"""Point [17]: papers, and what is a right one."""

import unittest
from random import Random

from meansinprint.errors import TooMany
from meansinprint.papers import paper, right_paper
from meansinprint.reports import Report
from tests import oracle
from tests.short_reports import SCALES, all_told


def told_of(report):
    """The marks that the told ends put into a list; None if they cannot be in one."""
    told = [mark for mark in (report.least, report.greatest) if mark is not None]
    if len(told) > report.size:
        return told[:1] if report.least == report.greatest else None
    return told


def scale_of(report):
    """The marks from the least one that can be to the greatest one."""
    least = report.low if report.least is None else report.least
    return range(least, (report.high if report.greatest is None else report.greatest) + 1)


def fewest_layers(report, told):
    """The layers by all lists of so many marks beside the told ones, whatever they are."""
    scale, layers = scale_of(report), []
    for many in range(report.size - len(told) + 1):
        rows = oracle.multisets(scale[0], scale[-1], many)
        layers.append(tuple(sorted({oracle.pair_of((*told, *row)) for row in rows})))
    return tuple(layers)


def expected_paper(report, marks):
    """The paper, by all lists of the scale."""
    rows = [row for row in marks if oracle.fits_but_middle(report, row)]
    if rows:
        return "list", rows[0]
    told = told_of(report)
    return ("ends",) if told is None else ("layers", fewest_layers(report, told))


def are_layers(report, layers):
    """Whether layers, which are tuples of states, are right."""
    told = told_of(report)
    if told is None or len(layers) != report.size - len(told) + 1 or oracle.pair_of(told) not in layers[0]:
        return False
    for layer, following in zip(layers, layers[1:]):
        for total, square in layer:
            if any((total + mark, square + mark ** 2) not in following for mark in scale_of(report)):
                return False
    return not any(oracle.gives(report, *state) for state in layers[-1])


def with_state(report, layers, at, state):
    """The layers with one more state, and all that it leads to."""
    found = [list(layer) for layer in layers]
    found[at].append(state)
    for here in range(at, len(found) - 1):
        found[here + 1] += [(total + mark, square + mark ** 2) for total, square in found[here]
                            for mark in scale_of(report)]
    return tuple(tuple(dict.fromkeys(layer)) for layer in found)


def small_reports(many):
    """The short reports whose scale is not too wide."""
    return [(report, marks) for report, marks in all_told(many) if report.high - report.low <= 6]


class ShortListsTest(unittest.TestCase):
    def test_paper(self):
        seen = {}
        for report, marks in small_reports(60):
            found = paper(report)
            self.assertEqual(found, expected_paper(report, marks), oracle.facts(report))
            self.assertIs(right_paper(report, found), True, oracle.facts(report))
            seen[found[0]] = seen.get(found[0], 0) + 1
        self.assertEqual(sorted(seen), ["ends", "layers", "list"])
        self.assertGreater(min(seen.values()), 20, seen)

    def test_papers_of_others(self):
        told = small_reports(12)
        for at, (report, marks) in enumerate(told):
            for other, _ in told[at - 5:at]:
                value = paper(other)
                if value[0] == "list":
                    expected = len(value[1]) == report.size and value[1] in marks
                    expected = expected and oracle.fits_but_middle(report, value[1])
                else:
                    expected = told_of(report) is None if value == ("ends",) else are_layers(report, value[1])
                self.assertIs(right_paper(report, value), expected, (oracle.facts(report), value))

    def test_right_lists(self):
        for report, marks in small_reports(12):
            for row in marks:
                found = oracle.fits_but_middle(report, row)
                self.assertIs(right_paper(report, ("list", row)), found, (oracle.facts(report), row))
                self.assertIs(right_paper(report, ("list", list(row))), False)
                if row != row[::-1]:
                    self.assertIs(right_paper(report, ("list", row[::-1])), False)

    def test_layers_with_less(self):
        for report, _ in small_reports(10):
            kind, *rest = paper(report)
            if kind != "layers":
                continue
            layers = rest[0]
            for at, layer in enumerate(layers):
                for state in layer:
                    less = tuple(other for other in layer if other != state)
                    value = ("layers", (*layers[:at], less, *layers[at + 1:]))
                    self.assertIs(right_paper(report, value), False, (oracle.facts(report), value))
                self.assertIs(right_paper(report, ("layers", layers[:at] + layers[at + 1:])), False)
                self.assertIs(right_paper(report, ("layers", layers[:at] + ((),) + layers[at:])), False)
                self.assertIs(right_paper(report, ("layers", layers[:at] + (layer,) + layers[at:])), False)

    def test_layers_with_more(self):
        source, seen = Random(11), {}
        for report, _ in small_reports(25):
            kind, *rest = paper(report)
            if kind != "layers":
                continue
            layers = rest[0]
            for _ in range(4):
                at = source.randrange(len(layers))
                total, square = source.choice(layers[at])
                state = (total + source.randrange(-2, 3), square + source.choice((0, 1, -1, 2, 5, -40, 10 ** 20)))
                more = with_state(report, layers, at, state)
                expected = are_layers(report, more)
                self.assertIs(right_paper(report, ("layers", more)), expected, (oracle.facts(report), more))
                seen[expected, more == layers] = seen.get((expected, more == layers), 0) + 1
                # The state alone does not do unless it leads to what is there.
                open_ended = (*layers[:at], (*layers[at], state), *layers[at + 1:])
                expected = are_layers(report, open_ended)
                self.assertIs(right_paper(report, ("layers", open_ended)), expected, (oracle.facts(report), open_ended))
        self.assertGreater(min(seen.values()), 20, seen)
        self.assertEqual(len(seen), 3)


class RightPaperTest(unittest.TestCase):
    bad = Report(1, 2, 2, "1.7")
    layers = (((0, 0),), ((1, 1), (2, 4)), ((2, 2), (3, 5), (4, 8)))

    def check(self, expected, report, value):
        with self.subTest(facts=oracle.facts(report), value=value):
            self.assertIs(right_paper(report, value), expected)

    def test_order_and_doubles(self):
        self.check(True, self.bad, ("layers", tuple(layer[::-1] for layer in self.layers)))
        self.check(True, self.bad, ("layers", tuple(layer * 2 for layer in self.layers)))

    def test_no_list_of_layers(self):
        first, second, third = self.layers
        self.check(True, self.bad, ("layers", (first, second, third)))
        self.check(False, self.bad, ("layers", [first, second, third]))
        self.check(False, self.bad, ["layers", (first, second, third)])
        self.check(False, self.bad, ("layers", (first, second, list(third))))
        self.check(False, self.bad, ("layers", (first, second, dict(third))))
        self.check(False, self.bad, ("layers", (first, second, third[:2] + ([4, 8],))))
        self.check(False, self.bad, ("layers", (list(first), second, third)))
        self.check(False, self.bad, ("layers", first, second, third))
        self.check(False, self.bad, ("layers", (first, second, third), ()))
        self.check(False, self.bad, ("layers",))
        self.check(False, self.bad, ("layers", ()))
        self.check(False, self.bad, ("Layers", (first, second, third)))
        self.check(False, self.bad, ("list", (first, second, third)))
        self.check(False, self.bad, (first, second, third))

    def test_no_booleans(self):
        first, second, third = self.layers
        self.check(False, self.bad, ("layers", (((0, False),), second, third)))
        self.check(False, self.bad, ("layers", (first, ((True, True), (2, 4)), third)))
        self.check(False, self.bad, ("layers", (first, ((1, True), (2, 4)), third)))
        self.check(False, self.bad, ("layers", ((*first, (True, 0)), second, third)))
        self.check(False, self.bad, ("layers", (first, second, (*third, (False, 7)))))
        self.check(False, Report(0, 1, 1, "1"), ("list", (True,)))
        self.check(True, Report(0, 1, 1, "1"), ("list", (1,)))

    def test_states_of_other_forms(self):
        first, second, third = self.layers
        odd = (*oracle.ODD_VALUES, 2, (2,), (2, 2, 2), "22", (2, "2"), (None, 2), (2, (2,)), ((2, 2), (2, 2)), (2, 2.0))
        for state in odd:
            self.check(False, self.bad, ("layers", (first, second, (*third, state))))
            self.check(False, self.bad, ("layers", (first, (*second, state), third)))
            self.check(False, self.bad, ("layers", ((state, *first), second, third)))
            self.check(False, self.bad, ("layers", ((state,), second, third)))
        for layer in (value for value in odd if value != ()):
            self.check(False, self.bad, ("layers", (first, second, third, layer)))
            self.check(False, self.bad, ("layers", (layer, second, third)))
            self.check(False, self.bad, ("layers", (first, second, layer)))

    def test_other_values(self):
        deep = ()
        for _ in range(38):
            deep = (deep,)
        values = (*oracle.ODD_VALUES, "list", "ends", "layers", ("list",), ("ends", ()), ("ends", None), ("end",),
                  (["ends"],), ["ends"], ("list", None), ("list", "11"), ("list", 1), ("list", {}), ("list", (1, "2")),
                  ("list", (1, 2), ()), ((), ()), (None, (1, 2)), (1, (1, 2)), ({}, []), ([], {}), deep,
                  ("list", deep), ("layers", deep), ("layers", (deep, deep, deep)), {"list": (1, 2)}, ("ends",),
                  ("layers", None), ("layers", "abc"), ("layers", {}), ("layers", 3), ("list", ((1, 2),)))
        for report in (self.bad, Report(1, 2, 2, "1.5"), Report(1, 2, 2, "1.5", "0.71", "sample", 1, 2)):
            for value in values:
                self.check(False, report, value)
        self.check(True, Report(1, 2, 2, "1.5"), ("list", (1, 2)))

    def test_ends_of_one_mark(self):
        report = Report(1, 5, 1, "3", None, "sample", 1, 5)
        self.assertEqual(paper(report), ("ends",))
        self.check(True, report, ("ends",))
        for value in (("layers", ()), ("layers", (((1, 1),),)), ("layers", (((6, 26),),)), ("layers", (((0, 0),), ())),
                      ("list", (1,)), ("list", (3,)), ("ends", "ends"), ["ends"]):
            self.check(False, report, value)
        alike = Report(1, 5, 1, "3", None, "sample", 2, 2)
        self.assertEqual(paper(alike), ("layers", (((2, 4),),)))
        self.check(False, alike, ("ends",))
        self.check(False, alike, ("layers", (((0, 0),), ((2, 4),))))
        self.check(False, alike, ("layers", (((4, 8),),)))
        self.assertEqual(paper(Report(1, 5, 1, "2", None, "sample", 2, 2)), ("list", (2,)))
        for facts in ((2, "3", None, "sample", 1, 5), (1, "3", None, "sample", 1), (1, "3", None, "sample", None, 5)):
            self.check(False, Report(1, 5, *facts), ("ends",))

    def test_told_ends(self):
        self.assertEqual(paper(Report(1, 5, 1, "3", None, "sample", 1)), ("layers", (((1, 1),),)))
        self.assertEqual(paper(Report(1, 5, 1, "3", None, "sample", None, 5)), ("layers", (((5, 25),),)))
        self.assertEqual(paper(Report(1, 5, 2, "3.5", None, "sample", 1, 5)), ("layers", (((6, 26),),)))
        self.assertEqual(paper(Report(1, 5, 2, "3", None, "sample", 2, 2)), ("layers", (((4, 8),),)))
        found = (((4, 8),), ((6, 12),))
        self.assertEqual(paper(Report(1, 5, 3, "3", None, "sample", 2, 2)), ("layers", found))
        found = (((-1, 1),), ((-2, 2), (-1, 1), (0, 2)))
        self.assertEqual(paper(Report(-2, 1, 2, "1", None, "sample", -1)), ("layers", found))

    def test_middle_is_not_looked_at(self):
        report = Report(1, 5, 3, "3.0", None, "sample", None, None, "5")
        self.assertEqual(paper(report), ("list", (1, 3, 5)))
        self.check(True, report, ("list", (1, 3, 5)))
        self.check(True, report, ("list", (3, 3, 3)))
        self.assertEqual(report.middle, "5")
        bad = Report(1, 2, 2, "1.7", None, "sample", None, None, "1.7")
        self.assertEqual(paper(bad), ("layers", self.layers))
        self.check(True, bad, ("layers", self.layers))

    def test_last_layer_without_spread(self):
        # Without a spread the mean alone counts, whatever the sum of squares.
        first, second, third = self.layers
        report = Report(1, 2, 2, "1.7")
        for state, found in (((2, -9), True), ((5, 0), True), ((-3, 10 ** 30), True)):
            self.check(found, report, ("layers", (first, second, (*third, state))))
        report = Report(1, 2, 2, "9")
        self.check(True, report, ("layers", (first, second, third)))
        for square in (-5, 0, 1, 10 ** 30, 162):
            self.check(False, report, ("layers", (first, second, (*third, (18, square)))))

    def test_last_layer_with_spread(self):
        first, second, third = self.layers
        report = Report(1, 2, 2, "1.5", "0", "whole")
        # Of the sum 3 and the sum of squares 5 the spread is 0.5, half a unit away.
        self.check(False, report, ("layers", (first, second, third)))
        self.check(True, report, ("list", (1, 2)))
        report = Report(1, 2, 2, "1.5", "0.4", "whole")
        self.check(True, report, ("layers", (first, second, third)))
        # There is no root of what is below 0; 4.32 would have the spread 0.4 there.
        self.check(True, report, ("layers", (first, second, (*third, (3, 4)))))
        zero = Report(0, 2, 2, "2.0", "0.0")
        rows = (((0, 0),), ((0, 0), (1, 1), (2, 4)), ((0, 0), (1, 1), (2, 2), (2, 4), (3, 5)))
        self.check(False, zero, ("layers", (*rows[:2], (*rows[2], (4, 8)))))
        other = Report(0, 2, 2, "2.0", "0.1")
        self.check(True, other, ("layers", (*rows[:2], (*rows[2], (4, 8)))))
        self.check(True, other, ("layers", (*rows[:2], (*rows[2], (4, 8), (4, 7), (4, -10 ** 9)))))
        self.check(True, other, ("layers", (*rows[:2], (*rows[2], (4, 8), (4, 9)))))


class LimitsTest(unittest.TestCase):
    def test_just_8_marks_on_7(self):
        report = Report(0, 6, 8, "3.31")
        found = ("layers", fewest_layers(report, []))
        self.assertEqual(paper(report), found)
        self.assertIs(right_paper(report, found), True)
        report = Report(44, 50, 8, "47.125", "2.0310", "sample", 44, 50)
        rows = [row for row in oracle.multisets(44, 50, 8) if oracle.fits(report, row)]
        self.assertEqual(paper(report), ("list", rows[0]))

    def test_too_many(self):
        for facts in ((0, 6, 9, "3"), (0, 7, 8, "3"), (0, 7, 1, "3"), (0, 1, 9, "7"), (0, 1, 10 ** 6, "0.5"),
                      (-50, -39, 10 ** 6, "7"), (0, 7, 2, "3", None, "sample", 3, 4)):
            report = Report(*facts)
            self.assertRaises(TooMany, paper, report)
            for value in (None, ("ends",), ("list", (0,) * 9), ("layers", ()), []):
                with self.assertRaises(TooMany) as caught:
                    right_paper(report, value)
                self.assertIs(type(caught.exception), TooMany)
        self.assertEqual(paper(Report(0, 6, 1, "3")), ("list", (3,)))
        self.assertEqual(paper(Report(0, 1, 8, "0.5")), ("list", (0, 0, 0, 0, 1, 1, 1, 1)))

    def test_scales_reach_the_limit(self):
        self.assertIn(6, [high - low for low, high, _ in SCALES])

    def test_repeated(self):
        report = Report(1, 2, 2, "1.7")
        found = paper(report)
        self.assertEqual(paper(report), found)
        self.assertEqual([right_paper(report, found), right_paper(report, found)], [True, True])
        self.assertIs(type(found), tuple)
        value = ("list", [1, 2])
        right_paper(report, value)
        self.assertEqual((value, oracle.facts(report)), (("list", [1, 2]), oracle.facts(Report(1, 2, 2, "1.7"))))


if __name__ == "__main__":
    unittest.main()

"""Point [3]: Report, its properties, its errors and their order."""

import unittest
from itertools import combinations

from meansinprint.errors import BadEnd, BadKind, BadPrint, BadScale, BadSize
from meansinprint.reports import Report
from tests import oracle

NAMES = ("low", "high", "size", "mean", "spread", "kind", "least", "greatest", "middle")
PLAIN = (1, 5, 10, "3.4", "1.26", "sample", 1, 5, "3")
OTHERS = (0, 6, 11, "3.40", "1.3", "whole", 2, 4, "3.0")
BIG = (10 ** 400, -10 ** 400)


def changed(**told):
    """The plain facts with some others told."""
    return tuple(told.get(name, fact) for name, fact in zip(NAMES, PLAIN))


class ReportTest(unittest.TestCase):
    def refuse(self, error, facts, **fields):
        """Expect just this error, with just these fields."""
        with self.subTest(repr(facts)[:200]), self.assertRaises(error) as caught:
            Report(*facts)
        self.assertEqual((type(caught.exception), vars(caught.exception)), (error, fields))

    def take(self, **told):
        """Expect no error, and the facts as properties."""
        self.assertEqual(oracle.facts(Report(*changed(**told))), changed(**told))

    def test_properties(self):
        report = Report(*PLAIN)
        for name, fact in zip(NAMES, PLAIN):
            self.assertEqual(getattr(report, name), fact)
            self.assertIsInstance(vars(Report)[name], property)

    def test_properties_cannot_be_set(self):
        report = Report(*PLAIN)
        for name, other in zip(NAMES, OTHERS):
            with self.assertRaises(AttributeError):
                setattr(report, name, other)
        self.assertEqual(oracle.facts(report), PLAIN)

    def test_default_values(self):
        facts = (1, 5, 10, "3.4", None, "sample", None, None, None)
        self.assertEqual(oracle.facts(Report(1, 5, 10, "3.4")), facts)
        self.assertEqual(oracle.facts(Report(mean="3.4", size=10, high=5, low=1)), facts)
        self.assertEqual(Report(1, 5, 10, "3.4"), Report(*facts))
        self.assertEqual(oracle.facts(Report(**dict(zip(NAMES, PLAIN)))), PLAIN)

    def test_equal(self):
        self.assertTrue(Report(*PLAIN) == Report(*PLAIN))
        self.assertFalse(Report(*PLAIN) != Report(*PLAIN))
        report = Report(*PLAIN)
        self.assertTrue(report == report)

    def test_unlike_by_one_fact(self):
        for name, other in zip(NAMES, OTHERS):
            with self.subTest(name):
                self.assertFalse(Report(*PLAIN) == Report(*changed(**{name: other})))
                self.assertTrue(Report(*PLAIN) != Report(*changed(**{name: other})))
        for name in ("spread", "least", "greatest", "middle"):
            with self.subTest(name):
                self.assertFalse(Report(*PLAIN) == Report(*changed(**{name: None})))

    def test_equal_to_nothing_of_another_kind(self):
        report = Report(*PLAIN)
        for other in (*oracle.ODD_VALUES, 0, 1, PLAIN, list(PLAIN), dict(zip(NAMES, PLAIN)), "3.4", Report):
            self.assertFalse(report == other)
            self.assertTrue(report != other)

        class Double:
            """Has all that a report has, but for its kind."""

            def __init__(self):
                vars(self).update(vars(report))

        for name in NAMES:
            setattr(Double, name, vars(Report)[name])
        self.assertEqual(oracle.facts(Double()), PLAIN)
        self.assertFalse(report == Double())

    def test_all_scales(self):
        for low in range(-53, 54):
            for high in range(low - 2, low + 15):
                facts = (low, high, 3, "0")
                if -50 <= low <= 49 and low + 1 <= high <= low + 11 and high <= 50:
                    self.assertEqual(oracle.facts(Report(*facts))[:2], (low, high))
                else:
                    self.refuse(BadScale, facts)

    def test_bad_scale(self):
        for value in (*oracle.ODD_VALUES, *BIG, "5", "1"):
            self.refuse(BadScale, changed(low=value))
            self.refuse(BadScale, changed(high=value))
            self.refuse(BadScale, changed(low=value, high=value))
        # True stands for no 1 and False for no 0, though marks of these could be.
        self.refuse(BadScale, (True, 5, 3, "3"))
        self.refuse(BadScale, (False, 5, 3, "3"))
        self.refuse(BadScale, (0, True, 3, "3"))
        self.refuse(BadScale, (-1, False, 3, "3"))

    def test_sizes(self):
        for size in (2, 3, 999999, 10 ** 6):
            self.take(size=size)
        for size in (0, -1, 10 ** 6 + 1, *BIG, *oracle.ODD_VALUES, "10"):
            self.refuse(BadSize, changed(size=size))
        self.assertEqual(Report(1, 5, 1, "3").size, 1)

    def test_prints(self):
        for fact in ("mean", "spread", "middle"):
            for text in ("0", "0.0", "0.0000", "9999.9999", "1000", "10.5"):
                self.take(**{fact: text})
            for value in (*oracle.ODD_VALUES, *oracle.NEARLY_PRINTS, 0, 3, *BIG):
                if value is not None or fact == "mean":
                    self.refuse(BadPrint, changed(**{fact: value}), fact=fact)
        for text in ("-1", "-0.5", "-9999.9999"):
            self.take(mean=text)
            self.take(middle=text)
            self.refuse(BadPrint, changed(spread=text), fact="spread")
        self.take(spread=None)
        self.take(middle=None)

    def test_kinds(self):
        self.take(kind="sample")
        self.take(kind="whole")
        near = ("Sample", "WHOLE", "sample ", " whole", "samples", "hole", "sample\n", "samplewhole")
        for value in (*oracle.ODD_VALUES, *near, 0, 1, ("sample",), ["whole"], ("sample", "whole")):
            self.refuse(BadKind, changed(kind=value))
            self.refuse(BadKind, changed(kind=value, spread=None))
            self.refuse(BadKind, (1, 5, 1, "3", None, value))

    def test_one_mark_with_a_spread(self):
        self.refuse(BadKind, (1, 5, 1, "3", "0"))
        self.refuse(BadKind, (1, 5, 1, "3", "0.0", "sample"))
        self.assertEqual(Report(1, 5, 1, "3", "0", "whole").spread, "0")
        self.assertEqual(Report(1, 5, 1, "3", None, "sample").kind, "sample")
        self.assertEqual(Report(1, 5, 1, "3", None, "whole").kind, "whole")
        self.assertEqual(Report(1, 5, 2, "3", "0").size, 2)

    def test_all_ends(self):
        # This includes told ends that are unlike at size 1: there is a report, but no list.
        values = (None, *range(-1, 8))
        for size in (1, 2, 10):
            for least in values:
                for greatest in values:
                    facts = (1, 5, size, "3", None, "sample", least, greatest)
                    if least is not None and not 1 <= least <= 5:
                        self.refuse(BadEnd, facts, fact="least")
                    elif greatest is not None and not (least or 1) <= greatest <= 5:
                        self.refuse(BadEnd, facts, fact="greatest")
                    else:
                        self.assertEqual(oracle.facts(Report(*facts))[6:8], (least, greatest))

    def test_bad_ends(self):
        for value in (*oracle.ODD_VALUES, "1", "5", *BIG):
            if value is not None:
                self.refuse(BadEnd, changed(least=value), fact="least")
                self.refuse(BadEnd, changed(greatest=value), fact="greatest")
                self.refuse(BadEnd, changed(least=value, greatest=None), fact="least")
                self.refuse(BadEnd, changed(least=None, greatest=value), fact="greatest")
        # True would be the mark 1, False the mark 0 here.
        for value in (True, False):
            self.refuse(BadEnd, (0, 5, 3, "3", None, "sample", value), fact="least")
            self.refuse(BadEnd, (0, 5, 3, "3", None, "sample", None, value), fact="greatest")

    def test_ends_at_zero_are_told(self):
        self.assertEqual(oracle.facts(Report(-2, 2, 3, "0", None, "sample", 0, 0))[6:8], (0, 0))
        self.refuse(BadEnd, (-2, 2, 3, "0", None, "sample", 0, -1), fact="greatest")

    def test_order_of_errors(self):
        rows = (
            (BadScale, {}, {"low": 60}), (BadScale, {}, {"high": "5"}), (BadSize, {}, {"size": 0}),
            (BadPrint, {"fact": "mean"}, {"mean": "03"}), (BadPrint, {"fact": "spread"}, {"spread": "-1"}),
            (BadPrint, {"fact": "middle"}, {"middle": 3}), (BadKind, {}, {"kind": "half"}),
            (BadEnd, {"fact": "least"}, {"least": 70}), (BadEnd, {"fact": "greatest"}, {"greatest": -70}),
        )
        for first in range(len(rows)):
            error, fields, told = rows[first]
            self.refuse(error, changed(**told), **fields)
            for many in range(1, 4):
                for more in combinations(rows[first + 1:], many):
                    wrong = {name: fact for row in more for name, fact in row[2].items()}
                    self.refuse(error, changed(**wrong, **told), **fields)

    def test_order_with_one_mark(self):
        # The size 1 with a spread is one of the wrongs of kind: behind the prints, ahead of the ends.
        self.refuse(BadPrint, (1, 5, 1, "3", "1", "sample", None, None, "x"), fact="middle")
        self.refuse(BadKind, (1, 5, 1, "3", "1", "sample", 9, 0, "3"))
        self.refuse(BadPrint, (1, 5, 1, "3", "x", "sample"), fact="spread")

    def test_all_wrong(self):
        for value in oracle.ODD_VALUES:
            self.refuse(BadScale, (value,) * 9)

    def test_an_error_changes_nothing(self):
        report = Report(*PLAIN)
        for facts in (changed(mean="x"), OTHERS[:8] + ("x",), changed(low=0, greatest=9)):
            with self.assertRaises(ValueError):
                report.__init__(*facts)
            self.assertEqual(oracle.facts(report), PLAIN)

    def test_wrong_values_are_not_changed(self):
        inner = [1, 2]
        value = {"a": inner}
        for name in NAMES:
            with self.assertRaises(ValueError):
                Report(*changed(**{name: value}))
            with self.assertRaises(ValueError):
                Report(*changed(**{name: inner}))
        self.assertEqual((value, inner), ({"a": [1, 2]}, [1, 2]))

    def test_values_that_are_nested_deep(self):
        value = []
        for _ in range(39):
            value = [value]
        for name in NAMES:
            with self.assertRaises(ValueError):
                Report(*changed(**{name: value}))


if __name__ == "__main__":
    unittest.main()

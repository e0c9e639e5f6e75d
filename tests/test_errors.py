"""The interface of meansinprint.errors."""

import unittest

from meansinprint import errors
from meansinprint.errors import ReportError

PLAIN = (
    "BadScale", "BadSize", "BadKind", "BadSum", "BadMark", "BadNumber", "BadDigits", "BadMost", "BadReports",
    "TooMany", "Unlike", "Full",
)
FIELDS = {"BadPrint": "fact", "BadEnd": "fact", "BadText": "word"}


class ErrorsTest(unittest.TestCase):
    def test_base(self):
        self.assertEqual(ReportError.__bases__, (ValueError,))
        self.assertIsInstance(ReportError(), ValueError)

    def test_direct_subclasses(self):
        for name in (*PLAIN, *FIELDS):
            with self.subTest(name):
                found = getattr(errors, name)
                self.assertEqual(found.__bases__, (ReportError,))
                self.assertEqual((found.__name__, found.__module__), (name, "meansinprint.errors"))

    def test_no_further_errors(self):
        found = {name for name, value in vars(errors).items() if isinstance(value, type)}
        self.assertEqual(found, {"ReportError", *PLAIN, *FIELDS})

    def test_without_fields(self):
        for name in PLAIN:
            with self.subTest(name), self.assertRaises(ReportError) as caught:
                raise getattr(errors, name)()
            self.assertEqual(vars(caught.exception), {})

    def test_fields(self):
        for name, field in FIELDS.items():
            found = getattr(errors, name)
            for value in ("mean", "least", None, 0, 7):
                with self.subTest(name, value=value):
                    self.assertEqual(vars(found(value)), {field: value})
                    self.assertEqual(vars(found(**{field: value})), {field: value})
            with self.assertRaises(TypeError):
                found()


if __name__ == "__main__":
    unittest.main()

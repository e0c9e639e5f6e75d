"""The interface, and the rules of form that a test can see."""

import ast
import inspect
import unittest
from pathlib import Path

import meansinprint
from meansinprint import (
    changing, far, fillers, groups, judging, lists, numbering, papers, printable, reports, squares, sums, texts,
)

FOLDER = Path(meansinprint.__file__).parent
FUNCTIONS = {
    sums: {
        "sum_range": ["report"], "square_range": ["report", "total"], "can_mean": ["report"],
        "sizes_for": ["report", "most"],
    },
    squares: {"squares": ["report", "total"], "gap": ["report", "total"]},
    judging: {"pairs": ["report"], "verdict": ["report"], "sizes": ["report", "most"]},
    lists: {
        "fits": ["report", "value"], "count_lists": ["report"], "all_lists": ["report"], "first_list": ["report"],
        "often": ["report"], "sure_marks": ["report"],
    },
    changing: {
        "without": ["report", "mark", "digits"], "joined_prints": ["one", "other", "digits"],
        "shared_sizes": ["reports", "most"], "misprints": ["report"],
    },
    far: {"far_verdict": ["report"]},
    papers: {"paper": ["report"], "right_paper": ["report", "value"]},
    numbering: {"many_lists": ["report"], "kth_list": ["report", "k"], "rank_list": ["report", "value"]},
    groups: {"split_pairs": ["whole", "one", "other"], "rest_prints": ["whole", "one", "digits", "more"]},
    printable: {"print_pairs": ["report", "digits", "more"], "nearest_prints": ["report"]},
    texts: {"write": ["report"], "read": ["text"]},
}
OUTSIDE = {"heapq", "math", "itertools", "collections", "__future__"}


def trees():
    """All files of the package with what Python reads in them."""
    return [(path, ast.parse(path.read_text("ascii"))) for path in sorted(FOLDER.glob("*.py"))]


def functions():
    """All functions of the package: (path, node)."""
    return [(path, node) for path, tree in trees() for node in ast.walk(tree) if isinstance(node, ast.FunctionDef)]


class InterfaceTest(unittest.TestCase):
    def test_functions(self):
        for module, arguments in FUNCTIONS.items():
            for name, found in arguments.items():
                function = vars(module)[name]
                self.assertTrue(inspect.isfunction(function))
                self.assertEqual(function.__module__, module.__name__)
                self.assertEqual(list(inspect.signature(function).parameters), found)

    def test_report(self):
        self.assertEqual(reports.Report.__module__, "meansinprint.reports")
        self.assertEqual(
            str(inspect.signature(reports.Report)),
            "(low, high, size, mean, spread=None, kind='sample', least=None, greatest=None, middle=None)",
        )
        self.assertIn("__eq__", vars(reports.Report))

    def test_filler(self):
        self.assertEqual(fillers.Filler.__module__, "meansinprint.fillers")
        self.assertEqual(str(inspect.signature(fillers.Filler)), "(report)")
        for name, found in (("add", ["self", "mark"]), ("left", ["self"]), ("options", ["self"]), ("undo", ["self"]),
                            ("redo", ["self"]), ("__len__", ["self"])):
            self.assertEqual(list(inspect.signature(vars(fillers.Filler)[name]).parameters), found)


class FormTest(unittest.TestCase):
    def test_folder(self):
        names = [path.name for path in FOLDER.iterdir() if path.name != "__pycache__"]
        self.assertIn("__init__.py", names)
        for name in names:
            self.assertRegex(name, r"^[a-z0-9_]+\.py$")

    def test_lines(self):
        for path in FOLDER.glob("*.py"):
            text = path.read_bytes()
            self.assertTrue(all(code == 10 or 32 <= code < 127 for code in text), path)
            lines = text.decode("ascii").splitlines()
            self.assertLessEqual(len(lines), 399, path)
            self.assertLessEqual(max(map(len, lines)), 120, path)

    def test_functions_are_short(self):
        for path, node in functions():
            self.assertLessEqual(node.end_lineno - node.lineno + 1, 40, (path, node.name))

    def test_imports(self):
        for path, tree in trees():
            for node in ast.walk(tree):
                self.assertNotIsInstance(node, ast.Import, path)
                if isinstance(node, ast.ImportFrom):
                    self.assertEqual(node.level, 0, path)
                    self.assertIn(node.module.partition(".")[0], {"meansinprint", *OUTSIDE}, path)

    def test_no_fractional_numbers(self):
        for path, tree in trees():
            for node in ast.walk(tree):
                self.assertNotIsInstance(node, ast.Div, path)
                if isinstance(node, ast.Constant):
                    self.assertNotIsInstance(node.value, (float, complex), path)


if __name__ == "__main__":
    unittest.main()

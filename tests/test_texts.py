"""Point [15]: texts of reports, there and back, and the first wrong word of others."""

import unittest
from itertools import product

from meansinprint.errors import BadText
from meansinprint.reports import Report
from meansinprint.texts import read, write
from tests import oracle
from tests.short_reports import all_told

LONG = "marks 1 5 size 10 mean 3.4 spread 1.26 sample least 1 greatest 5 middle 3.5"
# Words that are no integers as str writes them, and no prints either.
NO_NUMBERS = (
    "", "-", "+1", "+0", "-0", "00", "01", "-01", "1.", ".5", "1e1", "0x1", "1_0", "--1", "1-", "\u0661", "\uff11",
    "\u00b2", "\u22121", "\n", "1\n", "\t1", "1\u00a0", "one", "None", "none", "True", "marks", "size", "mean",
    "spread", "least", "greatest", "middle", "sample", "whole", "1,0", "1;", "9" * 5000, "-" + "9" * 5000, "0" * 8,
    "12345678",
)


def told_choices():
    """Reports with every choice of told parts."""
    for scale, size, mean in product(((1, 5), (-3, 2), (-50, -39), (49, 50)), (1, 2, 10 ** 6), ("3.4", "-0.0001", "0")):
        low, high = scale
        for spread, kind in ((None, "sample"), (None, "whole"), ("0", "whole"), ("1.26", "sample"), ("9999", "whole")):
            if (spread, kind, size) == ("1.26", "sample", 1):
                continue
            for least, greatest, middle in product((None, low, high), (None, high), (None, "0", "-1.5")):
                yield Report(low, high, size, mean, spread, kind, least, greatest, middle)


class TextsTest(unittest.TestCase):
    def check_bad(self, text, word):
        """Expect the index of the first wrong word."""
        with self.assertRaises(BadText, msg=repr(text)[:200]) as caught:
            read(text)
        self.assertEqual(caught.exception.word, word, repr(text)[:200])
        self.assertIs(type(caught.exception.word), int)

    def check_word(self, at, good, bad):
        """Expect of these words that they can stand, or not, in the place of that word of the long text."""
        words = LONG.split(" ")
        for word in good:
            text = " ".join([*words[:at], word, *words[at + 1:]])
            self.assertEqual(write(read(text)), text)
        for word in bad:
            self.check_bad(" ".join([*words[:at], word, *words[at + 1:]]), at)
            self.check_bad(" ".join([*words[:at], word]), at)


class WriteTest(unittest.TestCase):
    def test_words(self):
        for text, *facts in (
            ("marks 1 5 size 10 mean 3.4", 1, 5, 10, "3.4"),
            ("marks 1 5 size 10 mean 3.4 spread 1.26 sample least 1", 1, 5, 10, "3.4", "1.26", "sample", 1),
            ("marks 1 5 size 10 mean 3.4 spread 1.26 whole", 1, 5, 10, "3.4", "1.26", "whole"),
            ("marks 1 5 size 10 mean 3.4 spread none whole", 1, 5, 10, "3.4", None, "whole"),
            ("marks -50 -39 size 1000000 mean -0.5", -50, -39, 10 ** 6, "-0.5"),
            ("marks 0 1 size 1 mean 0 spread 0 whole least 0 greatest 0 middle 0",
             0, 1, 1, "0", "0", "whole", 0, 0, "0"),
            ("marks -1 1 size 2 mean 0.00 greatest 0", -1, 1, 2, "0.00", None, "sample", None, 0),
            ("marks 0 9 size 4 mean 2.5 spread none whole middle -1", 0, 9, 4, "2.5", None, "whole", None, None, "-1"),
            ("marks 1 5 size 2 mean 3 least 2 middle 3.5", 1, 5, 2, "3", None, "sample", 2, None, "3.5"),
            (LONG, 1, 5, 10, "3.4", "1.26", "sample", 1, 5, "3.5"),
        ):
            self.assertEqual(write(Report(*facts)), text)
            self.assertEqual(oracle.facts(read(text)), oracle.facts(Report(*facts)))

    def test_there_and_back(self):
        texts, many = {}, 0
        for report in told_choices():
            text = write(report)
            self.assertEqual(oracle.facts(read(text)), oracle.facts(report))
            self.assertEqual(write(read(text)), text)
            texts[text] = True
            many += 1
        self.assertEqual(len(texts), many)
        for report, _ in all_told(5):
            self.assertEqual(oracle.facts(read(write(report))), oracle.facts(report))

    def test_kinds_of_values(self):
        report = read(LONG)
        self.assertIs(type(report), Report)
        self.assertIs(type(write(report)), str)
        kinds = [type(fact) for fact in oracle.facts(report)]
        self.assertEqual(kinds, [int, int, int, str, str, str, int, int, str])
        self.assertEqual([read(LONG), write(report)], [read(LONG), write(report)])
        self.assertIsNot(read(LONG), read(LONG))


class ReadTest(TextsTest):
    def test_no_strings(self):
        for value in (*oracle.ODD_VALUES, LONG.split(" "), (LONG,), {LONG: LONG}, LONG.encode(), 7):
            if isinstance(value, str):
                continue
            with self.assertRaises(BadText) as caught:
                read(value)
            self.assertIsNone(caught.exception.word)

    def test_first_words(self):
        for text in ("", " ", "x", "Marks 1 5", "mark", "\nmarks 1 5 size 10 mean 3.4", "\t", "none", "1", "marks\t1"):
            self.check_bad(text, 0)
        self.check_bad(" " + LONG, 0)
        self.check_bad("marks", 1)
        self.check_bad("marks ", 1)

    def test_missing_words(self):
        words = LONG.split(" ")
        for many in range(1, len(words)):
            text = " ".join(words[:many])
            if many in (7, 10, 12, 14):
                self.assertEqual(write(read(text)), text)
            else:
                self.check_bad(text, many)
        self.check_bad("marks 1 5 size 10 mean 3.4 spread none", 9)
        self.check_bad("marks 1 5 size 10 mean 3.4 greatest", 8)
        self.check_bad("marks 1 5 size 10 mean 3.4 middle", 8)
        self.check_bad("marks 1 5 size 10 mean 3.4 least 1 middle", 10)

    def test_left_out_words(self):
        words = LONG.split(" ")
        # Without the first words of a part the next one stands where it cannot.
        for at, wrong in enumerate((0, 2, 2, 3, 4, 5, 6, 7, 8, 9, 10, 11, 12, 13)):
            self.check_bad(" ".join(words[:at] + words[at + 1:]), wrong)
        self.check_bad(" ".join(words[:14] + words[15:]), 14)

    def test_doubled_words(self):
        words = LONG.split(" ")
        for at in range(len(words)):
            text = " ".join(words[:at + 1] + words[at:])
            # A doubled lowest mark is a highest one that is too low.
            self.check_bad(text, at + 1)

    def test_spaces(self):
        words = LONG.split(" ")
        for at in range(len(words)):
            self.check_bad(" ".join([*words[:at], "", *words[at:]]), at)
            for space in ("\n", "\t", "\u00a0", "\r\n", "\u2003"):
                self.check_bad(" ".join([*words[:at], words[at] + space, *words[at + 1:]]), at)
                self.check_bad(" ".join([*words[:at], space + words[at], *words[at + 1:]]), at)
        for tail in ("", " ", "x", "middle", "middle 3", "least 1", "\n"):
            self.check_bad(LONG + " " + tail, 16)
        self.check_bad("marks 1 5 size 10 mean 3.4 ", 7)
        self.check_bad("marks 1 5 size 10 mean 3.4 spread 1.26 sample ", 10)

    def test_names(self):
        for at in (0, 3, 5, 7, 10, 12, 14):
            name = LONG.split(" ")[at]
            bad = [name.upper(), name.title(), name + "s", name[1:], name[:-1], "x", "", "1", "none", "sample", "mark"]
            self.check_word(at, [name], bad)

    def test_order_of_parts(self):
        head = "marks 1 5 size 10 mean 3.4"
        for text, word in (
            ("least 1 spread 1.26 sample", 9), ("greatest 5 least 1", 9), ("middle 3 least 1", 9),
            ("middle 3 greatest 5", 9), ("middle 3 spread 1 whole", 9), ("least 1 least 1", 9),
            ("greatest 5 greatest 5", 9), ("middle 3 middle 3", 9), ("spread 1 whole spread 1 whole", 10),
            ("size 10", 7), ("mean 3.4", 7), ("spread 1 sample middle 3 greatest 5", 12), ("marks 1 5", 7),
        ):
            self.check_bad(f"{head} {text}", word)

    def test_low(self):
        words = " ".join(LONG.split(" ")[3:7])
        for low in (-50, -1, 0, 1, 49):
            self.assertEqual(read(f"marks {low} {low + 1} {words}").low, low)
        for word in (*NO_NUMBERS, "-51", "50", "1.0", "100", "-100", "1.5"):
            self.check_bad(f"marks {word} 50 {words}", 1)
            self.check_bad(f"marks {word}", 1)

    def test_high(self):
        words = " ".join(LONG.split(" ")[3:7])
        for low, good in ((-50, (-49, -39)), (0, (1, 11)), (1, (2, 12)), (39, (40, 50)), (45, (46, 50)), (49, (50,))):
            for high in good:
                self.assertEqual(read(f"marks {low} {high} {words}").high, high)
            for word in (*NO_NUMBERS, low, low - 1, low + 12, 51, 10 ** 30, "1.0"):
                if word not in NO_NUMBERS and word != "1.0" and low < word <= min(low + 11, 50):
                    continue
                self.check_bad(f"marks {low} {word} {words}", 2)

    def test_size(self):
        self.check_word(4, ["2", "40", "1000000"], [*NO_NUMBERS, "0", "-1", "1000001", "2.0", "10000000", "9999999"])
        self.assertEqual(read("marks 1 5 size 1 mean 3.4").size, 1)

    def test_mean(self):
        good = ["0", "-1", "9999.9999", "-0.0001", "0.0", "12"]
        bad = [word for word in (*NO_NUMBERS, *oracle.NEARLY_PRINTS) if " " not in word]
        self.check_word(6, good, bad)

    def test_spread(self):
        bad = [word for word in (*NO_NUMBERS, *oracle.NEARLY_PRINTS) if " " not in word and word != "none"]
        self.check_word(8, ["0", "0.0", "9999.9999", "1"], [*bad, "-1", "-0.5", "None", "NONE"])

    def test_kind(self):
        self.check_word(9, ["sample", "whole"], ["", "none", "Sample", "samples", "least", "1", "spread", "sampl"])
        head = "marks 1 5 size 10 mean 3.4 spread none"
        for word in ("sample", "", "none", "least", "1", "Whole"):
            self.check_bad(f"{head} {word}", 9)
            self.check_bad(f"{head} {word} least 1", 9)
        self.assertEqual(read(f"{head} whole").kind, "whole")

    def test_one_mark_has_no_sample(self):
        head = "marks 1 5 size 1 mean 3"
        self.assertEqual(read(f"{head} spread 0 whole").spread, "0")
        self.assertEqual(read(f"{head} spread none whole").kind, "whole")
        self.assertEqual(read(head).kind, "sample")
        self.check_bad(f"{head} spread 0 sample", 9)
        self.check_bad(f"{head} spread 0", 9)
        self.check_bad(f"{head} spread none sample", 9)

    def test_ends(self):
        self.check_word(11, ["1", "2", "5"], [*NO_NUMBERS, "0", "6", "-1", "1.0"])
        self.check_word(13, ["1", "5"], [*NO_NUMBERS, "0", "6", "1.0"])
        head = "marks -2 2 size 1 mean 0"
        self.assertEqual(read(f"{head} least -1 greatest 1").greatest, 1)
        self.assertEqual(read(f"{head} greatest -2").greatest, -2)
        self.assertEqual(read(f"{head} least 2 greatest 2").least, 2)
        self.check_bad(f"{head} least 1 greatest 0", 9 + 1)
        self.check_bad(f"{head} least 0 greatest -1 middle 0", 9 + 1)
        self.check_bad(f"{head} least -3", 8)
        self.check_bad(f"{head} greatest 3", 8)

    def test_middle(self):
        bad = [word for word in (*NO_NUMBERS, *oracle.NEARLY_PRINTS) if " " not in word]
        self.check_word(15, ["0", "-1.5", "9999", "3.0000"], bad)

    def test_long_texts(self):
        self.check_bad(LONG + " x" * 10000, 16)
        self.check_bad("x" * 10 ** 6, 0)
        self.check_bad("marks" + " " * 10 ** 6, 1)

    def test_error(self):
        with self.assertRaises(BadText) as caught:
            read("marks 1 5 size 10 mean 3,4")
        self.assertIs(type(caught.exception), BadText)
        self.assertEqual(caught.exception.word, 6)


if __name__ == "__main__":
    unittest.main()

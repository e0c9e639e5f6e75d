"""The texts of reports."""

from meansinprint.errors import BadText
from meansinprint.integers import is_int_within
from meansinprint.prints import FIGURES, is_print, is_print_from_zero
from meansinprint.reports import KINDS, LEAST_LOW, MOST_HIGH, MOST_SIZE, Report, most_high

# No integer of a report has more figures than that of 10 ** 6.
MOST_FIGURES = 7


def write(report):
    """Return the text of the report."""
    words = ["marks", f"{report.low}", f"{report.high}", "size", f"{report.size}", "mean", report.mean]
    if report.spread is not None or report.kind == "whole":
        words.extend(["spread", "none" if report.spread is None else report.spread, report.kind])
    for name, told in (("least", report.least), ("greatest", report.greatest), ("middle", report.middle)):
        if told is not None:
            words.extend([name, f"{told}"])
    return " ".join(words)


def read(text):
    """Return the report of such a text, which may be any value; BadText tells the first word that is wrong."""
    if not isinstance(text, str):
        raise BadText(None)
    words = WordReader(text)
    words.take_name("marks")
    low = words.take_integer(LEAST_LOW, MOST_HIGH - 1)
    high = words.take_integer(low + 1, most_high(low))
    words.take_name("size")
    size = words.take_integer(1, MOST_SIZE)
    words.take_name("mean")
    mean = words.take(is_print)
    spread, kind = _read_spread(words, size)
    least = words.take_integer(low, high) if words.skip("least") else None
    greatest = words.take_integer(low if least is None else least, high) if words.skip("greatest") else None
    middle = words.take(is_print) if words.skip("middle") else None
    words.check_end()
    return Report(low, high, size, mean, spread, kind, least, greatest, middle)


class WordReader:
    """The words of a text, taken one by one; BadText is raised for the first one that is not as it must be."""

    def __init__(self, text):
        self._words = text.split(" ")
        self._at = 0

    def take(self, is_right):
        """Take the next word, which must be right, and return it."""
        if self._at == len(self._words) or not is_right(self._words[self._at]):
            raise BadText(self._at)
        self._at += 1
        return self._words[self._at - 1]

    def take_name(self, name):
        """Take the next word, which must be the name."""
        self.take(lambda word: word == name)

    def take_integer(self, least, most):
        """Take the next word, which must be an integer from least to most, and return this."""
        return int(self.take(lambda word: _is_written(word) and is_int_within(int(word), least, most)))

    def skip(self, name):
        """Take the next word if it is the name, and tell whether it was."""
        found = self._at < len(self._words) and self._words[self._at] == name
        if found:
            self._at += 1
        return found

    def check_end(self):
        """Raise BadText if there is one more word."""
        if self._at < len(self._words):
            raise BadText(self._at)


def _read_spread(words, size):
    """Return the tuple of spread and kind."""
    if not words.skip("spread"):
        return None, "sample"
    spread = words.take(lambda word: word == "none" or is_print_from_zero(word))
    if spread == "none":
        words.take_name("whole")
        return None, "whole"
    kinds = KINDS if size > 1 else ("whole",)
    return spread, words.take(lambda word: word in kinds)


def _is_written(word):
    """Tell whether the word is an integer as str writes it, with no more figures than one of a report has."""
    figures = word.removeprefix("-")
    if not 1 <= len(figures) <= MOST_FIGURES or not all([letter in FIGURES for letter in figures]):
        return False
    return word == f"{int(word)}"

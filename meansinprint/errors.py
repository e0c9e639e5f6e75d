"""The errors of the package."""


class ReportError(ValueError):
    """The base class of all errors of the package."""


class BadScale(ReportError):
    """The lowest and the highest mark are no scale."""


class BadSize(ReportError):
    """The number of marks is none that can be here."""


class BadPrint(ReportError):
    """A fact, "mean", "spread" or "middle", is no print that can stand there."""

    def __init__(self, fact):
        super().__init__(f"the {fact} is no print that can stand there")
        self.fact = fact


class BadKind(ReportError):
    """The kind of spread is none that can be here."""


class BadEnd(ReportError):
    """An end, "least" or "greatest", is no mark that can stand there."""

    def __init__(self, fact):
        super().__init__(f"the {fact} is no mark that can stand there")
        self.fact = fact


class BadSum(ReportError):
    """The total is no integer."""


class BadMark(ReportError):
    """The mark is none that can be here."""


class BadNumber(ReportError):
    """The number of a list is none of the numbers that there are."""


class BadDigits(ReportError):
    """The number of digits is none that a print can have."""


class BadMost(ReportError):
    """The greatest number of marks is none that can be asked for."""


class BadReports(ReportError):
    """The value is no list or tuple of reports that can be asked for."""


class TooMany(ReportError):
    """There are more marks, sums, lists or figures than the function takes."""


class Unlike(ReportError):
    """The reports have unlike scales."""


class Full(ReportError):
    """There are as many marks as the report has."""


class BadText(ReportError):
    """The text is that of no report: word is the index of the first wrong word, None if it is no string."""

    def __init__(self, word):
        super().__init__(f"the text is that of no report, by word {word}")
        self.word = word

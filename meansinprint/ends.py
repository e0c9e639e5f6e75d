"""What the ends of a report leave of its lists."""


def told_marks(report, size):
    """Return the marks that told ends put into each list of so many, as a tuple; None if there is no such list."""
    told = [mark for mark in (report.least, report.greatest) if mark is not None]
    if len(told) <= size:
        return tuple(told)
    # Two ends of one mark: it is both of them, or there is none.
    return (report.least,) if report.least == report.greatest else None


def mark_range(report):
    """Return the tuple of the least and the greatest mark that a list with the told ends can have."""
    least = report.low if report.least is None else report.least
    greatest = report.high if report.greatest is None else report.greatest
    return least, greatest

"""Papers: what shows that a report can be, or that it cannot, whatever its middle."""

from meansinprint.ends import mark_range, told_marks
from meansinprint.errors import TooMany
from meansinprint.integers import is_int
from meansinprint.lists import first_list, is_list_but_middle
from meansinprint.reports import without_middle
from meansinprint.spreads import sums_give

MOST_MARKS = 8
MOST_WIDTH = 6


def paper(report):
    """Return a paper: the first list that fits, or what shows that there is none."""
    _check_small(report)
    first = first_list(without_middle(report))
    if first is not None:
        return "list", first
    told = told_marks(report, report.size)
    return ("ends",) if told is None else ("layers", _fewest_layers(report, told))


def right_paper(report, value):
    """Tell whether any value is a paper."""
    _check_small(report)
    if not isinstance(value, tuple):
        return False
    if value == ("ends",):
        return told_marks(report, report.size) is None
    if len(value) != 2:
        return False
    if value[0] == "list":
        return is_list_but_middle(report, value[1])
    return value[0] == "layers" and _are_right_layers(report, value[1])


def _check_small(report):
    if report.size > MOST_MARKS or report.high - report.low > MOST_WIDTH:
        raise TooMany("the report has more than 8 marks, or its scale more than 7")


def _first_state(told):
    return sum(told), sum([mark * mark for mark in told])


def _marks_between(report):
    least, greatest = mark_range(report)
    return list(range(least, greatest + 1))


def _fewest_layers(report, told):
    """Return the layers of just those states that must be there."""
    marks = _marks_between(report)
    layers = [(_first_state(told),)]
    for _ in range(report.size - len(told)):
        layers.append(_next_layer(layers[-1], marks))
    return tuple(layers)


def _next_layer(layer, marks):
    return tuple(sorted({(total + mark, square + mark * mark) for total, square in layer for mark in marks}))


def _are_right_layers(report, layers):
    told = told_marks(report, report.size)
    if told is None or not isinstance(layers, tuple) or len(layers) != report.size - len(told) + 1:
        return False
    if not all([_is_layer(layer) for layer in layers]) or _first_state(told) not in layers[0]:
        return False
    marks = _marks_between(report)
    if not all([_leads_to(layers[at], layers[at + 1], marks) for at in range(len(layers) - 1)]):
        return False
    return not any([sums_give(report, total, square) for total, square in layers[-1]])


def _is_layer(value):
    return isinstance(value, tuple) and all([_is_state(state) for state in value])


def _is_state(value):
    return isinstance(value, tuple) and len(value) == 2 and is_int(value[0]) and is_int(value[1])


def _leads_to(layer, following, marks):
    """Tell whether the following layer has all states of the layer with each of the marks put to them."""
    known = {state: True for state in following}
    return all([(total + mark, square + mark * mark) in known for total, square in layer for mark in marks])

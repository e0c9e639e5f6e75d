"""Integers among any values."""


def is_int(value):
    """Tell whether any value is an integer; True and False are none."""
    return isinstance(value, int) and not isinstance(value, bool)


def is_int_within(value, least, most):
    """Tell whether any value is an integer from least to most."""
    return is_int(value) and least <= value <= most

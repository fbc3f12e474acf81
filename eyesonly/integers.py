"""Integers among any values."""


def is_plain_int(thing):
    """Whether any value is an integer; a bool is none."""
    return isinstance(thing, int) and not isinstance(thing, bool)


def is_natural(thing):
    """Whether any value is an integer from 0 on."""
    return is_plain_int(thing) and thing >= 0

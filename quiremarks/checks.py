"""Checks of integers, which every chapter needs."""

from quiremarks.errors import BadValue


def is_between(value, low, high):
    """Tell whether the value is an integer from low to high."""
    # isinstance would take True and False for integers.
    return type(value) is int and low <= value <= high


def check_between(name, value, low, high):
    """Raise BadValue with the name unless the value is an integer from low to high."""
    if not is_between(value, low, high):
        raise BadValue(name)

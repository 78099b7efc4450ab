"""Checks of the plainest forms of values, which every chapter needs."""

from quiremarks.errors import BadValue


def is_between(value, low, high):
    """Tell whether the value is an integer from low to high."""
    # isinstance would take True and False for integers.
    return type(value) is int and low <= value <= high


def are_between(value, low, high):
    """Tell whether the value is a tuple of integers from low to high."""
    return type(value) is tuple and all([is_between(item, low, high) for item in value])


def are_counts(value, many):
    """Tell whether the value is a tuple of so many integers from 0 on."""
    if type(value) is not tuple or len(value) != many:
        return False
    return all([type(item) is int and item >= 0 for item in value])


def are_halves(value, many):
    """Tell whether the value is a tuple of integers from 1 on that together are half of so many."""
    return are_between(value, 1, many // 2) and 2 * sum(value) == many


def is_told(value, word, many):
    """Tell whether the value is a tuple of so many items, of which the word is the first one."""
    return type(value) is tuple and len(value) == many and type(value[0]) is str and value[0] == word


def check_between(name, value, low, high):
    """Raise BadValue with the name unless the value is an integer from low to high."""
    if not is_between(value, low, high):
        raise BadValue(name)

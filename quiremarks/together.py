"""Evidence about copies: a common collation, or why what is left of all begins with no gathering."""

from quiremarks.checks import is_between, is_told
from quiremarks.collations import divides, opening_behind
from quiremarks.copies import check_copies, woven
from quiremarks.factors import split_sheets
from quiremarks.folds import misfits
from quiremarks.rests import beginnings


def wrong_leaves(copies, index, begin, end):
    """Return the list of the leaves, in the first half of these, that have no counterpart in the copy."""
    paper, sequence = copies[index]
    return [leaf for leaf, other in misfits(paper, sequence, begin, end)]


def told_place(copies, begin, end):
    """Return the first copy in which these leaves are no gathering, and the first such leaf of it."""
    places = [(index, leaf) for index in range(len(copies)) for leaf in wrong_leaves(copies, index, begin, end)]
    return places[0]


def is_place(copies, begin, end, value):
    """Tell whether the value is a copy and such a leaf of it."""
    if type(value) is not tuple or len(value) != 2:
        return False
    index, leaf = value
    if not is_between(index, 0, len(copies) - 1) or not is_between(leaf, begin, end - 1):
        return False
    return leaf in wrong_leaves(copies, index, begin, end)


def leaves_none(copies, beginning, places):
    """Tell whether the values are gatherings of the first leaves, and places why the rest begins with none."""
    paper, sequence = woven(copies)
    begin = opening_behind(paper, sequence, beginning)
    if begin is None or begin == len(sequence):
        return False
    found = beginnings(sequence, begin)
    if type(places) is not tuple or len(places) != len(found):
        return False
    return all([is_place(copies, begin, end, place) for end, place in zip(found, places)])


def common_evidence(copies):
    """Return the told evidence."""
    check_copies(copies)
    paper, sequence = woven(copies)
    collation, rest = split_sheets(paper, sequence)
    if len(rest) == 0:
        return ("common", collation)
    begin = len(sequence) - len(rest)
    places = [told_place(copies, begin, end) for end in beginnings(sequence, begin)]
    return ("none", collation, tuple(places))


def accepts_common(copies, value):
    """Tell whether the value is evidence of either word."""
    check_copies(copies)
    if is_told(value, "common", 2):
        paper, sequence = woven(copies)
        return divides(paper, sequence, value[1])
    if is_told(value, "none", 3):
        return leaves_none(copies, value[1], value[2])
    return False

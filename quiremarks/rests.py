"""Evidence about a sequence: a collation of it, or why what is left begins with no gathering."""

from quiremarks.checks import are_between, is_told
from quiremarks.collations import divides, opening_behind
from quiremarks.factors import split_sheets
from quiremarks.folds import misfits
from quiremarks.papers import check_book


def beginnings(sequence, begin):
    """Return the list of the openings at which a gathering that begins there could end."""
    return list(range(begin + 2, len(sequence) + 1, 2))


def is_misfit(paper, sequence, begin, end, value):
    """Tell whether the value is a pair of leaves for which these leaves are no gathering."""
    if not are_between(value, begin, end - 1):
        return False
    return value in misfits(paper, sequence, begin, end)


def leaves_rest(paper, sequence, collation, pairs):
    """Tell whether the values are a collation of the first leaves, and pairs why the rest begins with no gathering."""
    begin = opening_behind(paper, sequence, collation)
    if begin is None or begin == len(sequence):
        return False
    found = beginnings(sequence, begin)
    if type(pairs) is not tuple or len(pairs) != len(found):
        return False
    return all([is_misfit(paper, sequence, begin, end, pair) for end, pair in zip(found, pairs)])


def sequence_evidence(paper, sequence):
    """Return the told evidence."""
    check_book(paper, sequence)
    collation, rest = split_sheets(paper, sequence)
    if len(rest) == 0:
        return ("collation", collation)
    begin = len(sequence) - len(rest)
    pairs = [misfits(paper, sequence, begin, end)[0] for end in beginnings(sequence, begin)]
    return ("rest", collation, tuple(pairs))


def accepts_sequence(paper, sequence, value):
    """Tell whether the value is evidence of either word."""
    check_book(paper, sequence)
    if is_told(value, "collation", 2):
        return divides(paper, sequence, value[1])
    if is_told(value, "rest", 3):
        return leaves_rest(paper, sequence, value[1], value[2])
    return False

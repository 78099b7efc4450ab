"""Gatherings: their sheets, why a sequence is none, and how it becomes one."""

from quiremarks.checks import is_between
from quiremarks.errors import NotPossible, TooLarge
from quiremarks.folds import closing_leaves, is_fold, mirrored
from quiremarks.papers import MOST_LEAVES, check_book


def is_gathering(paper, sequence):
    """Tell whether the sequence is a gathering."""
    check_book(paper, sequence)
    return is_fold(paper, sequence)


def folded_pairs(sequence):
    """Return the pairs of leaves equally far from both ends, from the outermost inward."""
    last = len(sequence) - 1
    return tuple([(leaf, last - leaf) for leaf in range(len(sequence) // 2)])


def are_counterparts(paper, sequence, leaf, other):
    """Tell whether the marks of the two leaves are counterparts."""
    return paper[sequence[leaf]] == sequence[other]


def mismatch(paper, sequence):
    """Return the told mismatch, or None if the sequence is a gathering."""
    check_book(paper, sequence)
    if len(sequence) == 0:
        return ()
    if len(sequence) % 2 == 1:
        return (len(sequence) // 2,)
    for leaf, other in folded_pairs(sequence):
        if not are_counterparts(paper, sequence, leaf, other):
            return (leaf, other)
    return None


def accepts_mismatch(paper, sequence, value):
    """Tell whether the value is a mismatch of the sequence."""
    check_book(paper, sequence)
    many = len(sequence)
    if type(value) is not tuple or len(value) > 2:
        return False
    if not all([is_between(leaf, 0, many - 1) for leaf in value]):
        return False
    if len(value) == 0:
        return many == 0
    if len(value) == 1:
        return many % 2 == 1 and value[0] == many // 2
    leaf, other = value
    if leaf >= other or leaf + other != many - 1:
        return False
    return not are_counterparts(paper, sequence, leaf, other)


def sheets(paper, sequence):
    """Return the tuple of the sheets of the gathering."""
    check_book(paper, sequence)
    if not is_fold(paper, sequence):
        raise NotPossible("gathering")
    return folded_pairs(sequence)


def doubled(paper, sequence):
    """Return the sequence with its reflection behind it."""
    check_book(paper, sequence)
    if 2 * len(sequence) > MOST_LEAVES:
        raise TooLarge("leaves")
    return sequence + mirrored(paper, sequence)


def closed(paper, sequence):
    """Return the shortest gathering that begins with the sequence."""
    check_book(paper, sequence)
    if len(sequence) == 0:
        raise NotPossible("empty")
    whole = sequence + closing_leaves(paper, sequence)
    if len(whole) > MOST_LEAVES:
        raise TooLarge("leaves")
    return whole

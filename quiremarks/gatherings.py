"""Gatherings: their sheets, why a sequence is none, and how it becomes one."""

from quiremarks.checks import are_between
from quiremarks.errors import NotPossible, TooLarge
from quiremarks.folds import are_counterparts, closing_leaves, folded_pairs, is_fold, mirrored, misfits
from quiremarks.papers import MOST_LEAVES, check_book


def is_gathering(paper, sequence):
    """Tell whether the sequence is a gathering."""
    check_book(paper, sequence)
    return is_fold(paper, sequence)


def mismatch(paper, sequence):
    """Return the told mismatch, or None if the sequence is a gathering."""
    check_book(paper, sequence)
    if len(sequence) == 0:
        return ()
    if len(sequence) % 2 == 1:
        return (len(sequence) // 2,)
    found = misfits(paper, sequence, 0, len(sequence))
    if len(found) == 0:
        return None
    return found[0]


def accepts_mismatch(paper, sequence, value):
    """Tell whether the value is a mismatch of the sequence."""
    check_book(paper, sequence)
    many = len(sequence)
    if not are_between(value, 0, many - 1) or len(value) > 2:
        return False
    if len(value) == 0:
        return many == 0
    if len(value) == 1:
        return many % 2 == 1 and value[0] == many // 2
    leaf, other = value
    if leaf >= other or leaf + other != many - 1:
        return False
    return not are_counterparts(paper, sequence, leaf, other)


def sheets(paper, sequence):
    """Return the tuple of the sheets of the gathering."""
    check_book(paper, sequence)
    if not is_fold(paper, sequence):
        raise NotPossible("gathering")
    return tuple(folded_pairs(0, len(sequence)))


def doubled(paper, sequence):
    """Return the sequence with its reflection behind it."""
    check_book(paper, sequence)
    if 2 * len(sequence) > MOST_LEAVES:
        raise TooLarge("leaves")
    return sequence + mirrored(paper, sequence)


def closed(paper, sequence):
    """Return the shortest gathering that begins with the sequence."""
    check_book(paper, sequence)
    if len(sequence) == 0:
        raise NotPossible("empty")
    whole = sequence + closing_leaves(paper, sequence)
    if len(whole) > MOST_LEAVES:
        raise TooLarge("leaves")
    return whole

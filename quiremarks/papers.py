"""Papers, and the sequences of their marks."""

from quiremarks.checks import are_between
from quiremarks.errors import BadValue
from quiremarks.folds import mirrored

MOST_MARKS = 6
MOST_LEAVES = 16


def is_paper(value):
    """Tell whether the value is a paper."""
    if type(value) is not tuple or not 1 <= len(value) <= MOST_MARKS:
        return False
    if not are_between(value, 0, len(value) - 1):
        return False
    return all([value[value[mark]] == mark for mark in range(len(value))])


def is_sequence(paper, value):
    """Tell whether the value is a sequence of the paper, which is not checked."""
    if type(value) is not tuple or len(value) > MOST_LEAVES:
        return False
    return are_between(value, 0, len(paper) - 1)


def check_paper(paper):
    """Raise BadValue unless the argument is a paper."""
    if not is_paper(paper):
        raise BadValue("paper")


def check_sequence(name, paper, sequence):
    """Raise BadValue with the name unless the argument is a sequence of the paper."""
    if not is_sequence(paper, sequence):
        raise BadValue(name)


def check_book(paper, sequence):
    """Check the two arguments with which most functions begin."""
    check_paper(paper)
    check_sequence("sequence", paper, sequence)


def reflected(paper, sequence):
    """Return the sequence reflected."""
    check_book(paper, sequence)
    return mirrored(paper, sequence)


def own_marks(paper):
    """Return the ascending tuple of the marks that are their own counterparts."""
    check_paper(paper)
    return tuple([mark for mark in range(len(paper)) if paper[mark] == mark])


def mark_pairs(paper):
    """Return the ascending tuple of the pairs of counterparts, the lesser mark first."""
    check_paper(paper)
    return tuple([(mark, paper[mark]) for mark in range(len(paper)) if mark < paper[mark]])

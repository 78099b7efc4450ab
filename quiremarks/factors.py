"""Factors: the shortest gatherings, split off from the beginning of a sequence."""

from quiremarks.folds import closing_leaves, is_fold, mirrored
from quiremarks.papers import check_book


def shortest_fold(paper, leaves):
    """Return the number of leaves of the shortest gathering with which the leaves begin, or 0."""
    for many in range(2, len(leaves) + 1, 2):
        if is_fold(paper, leaves[:many]):
            return many
    return 0


def split_leaves(paper, leaves):
    """Return the pair of the tuple of the factors and the remainder."""
    found = []
    rest = leaves
    many = shortest_fold(paper, rest)
    while many > 0:
        found.append(rest[:many])
        rest = rest[many:]
        many = shortest_fold(paper, rest)
    return tuple(found), rest


def split_sheets(paper, leaves):
    """Return the pair of the tuple of the numbers of sheets of the factors and the remainder."""
    factors, rest = split_leaves(paper, leaves)
    return tuple([len(factor) // 2 for factor in factors]), rest


def appended_leaves(paper, leaves):
    """Return the fewest leaves that make the leaves collatable, put behind them."""
    _, rest = split_leaves(paper, leaves)
    return closing_leaves(paper, rest)


def prepended_leaves(paper, leaves):
    """Return the fewest leaves that make the leaves collatable, put ahead of them."""
    return mirrored(paper, appended_leaves(paper, mirrored(paper, leaves)))


def split(paper, sequence):
    """Return the pair of the tuple of the factors and the remainder."""
    check_book(paper, sequence)
    return split_leaves(paper, sequence)


def ends(paper, sequence):
    """Return the ascending tuple of the openings at which a factor ends."""
    check_book(paper, sequence)
    factors, _ = split_leaves(paper, sequence)
    found = []
    opening = 0
    for factor in factors:
        opening = opening + len(factor)
        found.append(opening)
    return tuple(found)


def closing_mark(paper, sequence):
    """Return the mark with which one leaf more would finish a factor, or None."""
    check_book(paper, sequence)
    _, rest = split_leaves(paper, sequence)
    if len(rest) == 0:
        return None
    mark = paper[rest[0]]
    if is_fold(paper, rest + (mark,)):
        return mark
    return None


def appended(paper, sequence):
    """Return the fewest leaves that make the sequence collatable, put behind it."""
    check_book(paper, sequence)
    return appended_leaves(paper, sequence)


def prepended(paper, sequence):
    """Return the fewest leaves that make the sequence collatable, put ahead of it."""
    check_book(paper, sequence)
    return prepended_leaves(paper, sequence)


def completion(paper, sequence):
    """Return the told completion: an opening, the leaves put ahead, and those put behind."""
    check_book(paper, sequence)
    told = None
    fewest = 0
    for opening in range(len(sequence) + 1):
        ahead = prepended_leaves(paper, sequence[:opening])
        behind = appended_leaves(paper, sequence[opening:])
        many = len(ahead) + len(behind)
        if told is None or many < fewest:
            told = (opening, ahead, behind)
            fewest = many
    return told

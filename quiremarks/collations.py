"""Collations: all divisions of a sequence into gatherings, counted and by index."""

from quiremarks.checks import are_between, check_between
from quiremarks.errors import BadValue
from quiremarks.folds import is_fold
from quiremarks.papers import check_book

MOST_GATHERINGS = 8


def opening_behind(paper, sequence, value):
    """Return the opening behind the first leaves of which the value is a collation, or None if it is none of them."""
    if not are_between(value, 1, len(sequence) // 2):
        return None
    begin = 0
    for many in value:
        end = begin + 2 * many
        if end > len(sequence) or not is_fold(paper, sequence[begin:end]):
            return None
        begin = end
    return begin


def divides(paper, sequence, value):
    """Tell whether the value is a collation of the sequence."""
    return opening_behind(paper, sequence, value) == len(sequence)


def fold_ends(paper, sequence, begin):
    """Return the ascending list of the openings at which a gathering ends that begins there."""
    return [end for end in range(begin + 2, len(sequence) + 1, 2) if is_fold(paper, sequence[begin:end])]


def counts_behind(paper, sequence):
    """Return, for each opening, the number of the collations of the leaves behind it."""
    counts = [0] * len(sequence) + [1]
    for begin in reversed(range(len(sequence))):
        counts[begin] = sum([counts[end] for end in fold_ends(paper, sequence, begin)])
    return counts


def all_collations(paper, sequence):
    """Return the ascending list of all collations of the sequence."""
    found = [[] for _ in sequence] + [[()]]
    for begin in reversed(range(len(sequence))):
        found[begin] = [
            ((end - begin) // 2,) + rest for end in fold_ends(paper, sequence, begin) for rest in found[end]
        ]
    return found[0]


def counts_ahead(paper, sequence):
    """Return, for each opening, the number of the collations of the leaves ahead of it."""
    counts = [1] + [0] * len(sequence)
    for begin in range(len(sequence)):
        for end in fold_ends(paper, sequence, begin):
            counts[end] = counts[end] + counts[begin]
    return counts


def counts_with(paper, sequence, many):
    """Return, for each opening, the number of those collations with so many gatherings."""
    ends_behind = [fold_ends(paper, sequence, begin) for begin in range(len(sequence) + 1)]
    counts = [0] * len(sequence) + [1]
    for _ in range(many):
        counts = [sum([counts[end] for end in ends]) for ends in ends_behind]
    return counts


def collation_at(paper, sequence, counts, index):
    """Return the collation with the index, by the counts behind the openings."""
    found = []
    begin = 0
    ahead = index
    while begin < len(sequence):
        ends = fold_ends(paper, sequence, begin)
        at = 0
        while ahead >= counts[ends[at]]:
            ahead = ahead - counts[ends[at]]
            at = at + 1
        found.append((ends[at] - begin) // 2)
        begin = ends[at]
    return tuple(found)


def index_at(paper, sequence, counts, collation):
    """Return the index of the collation, by the counts behind the openings."""
    index = 0
    begin = 0
    for many in collation:
        end = begin + 2 * many
        index = index + sum([counts[less] for less in fold_ends(paper, sequence, begin) if less < end])
        begin = end
    return index


def is_collation(paper, sequence, value):
    """Tell whether the value is a collation of the sequence."""
    check_book(paper, sequence)
    return divides(paper, sequence, value)


def count_collations(paper, sequence):
    """Return the number of the collations of the sequence."""
    check_book(paper, sequence)
    return counts_behind(paper, sequence)[0]


def count_with(paper, sequence, many):
    """Return the number of the collations with so many gatherings."""
    check_book(paper, sequence)
    check_between("many", many, 0, MOST_GATHERINGS)
    return counts_with(paper, sequence, many)[0]


def nth_collation(paper, sequence, index):
    """Return the collation with the index."""
    check_book(paper, sequence)
    counts = counts_behind(paper, sequence)
    check_between("index", index, 0, counts[0] - 1)
    return collation_at(paper, sequence, counts, index)


def index_of_collation(paper, sequence, value):
    """Return the index of the collation, or None if the value is not one of the sequence."""
    check_book(paper, sequence)
    if not divides(paper, sequence, value):
        return None
    return index_at(paper, sequence, counts_behind(paper, sequence), value)


def next_collation(paper, sequence, collation):
    """Return the collation with the next index, or None if there is none."""
    check_book(paper, sequence)
    if not divides(paper, sequence, collation):
        raise BadValue("collation")
    counts = counts_behind(paper, sequence)
    index = index_at(paper, sequence, counts, collation) + 1
    if index == counts[0]:
        return None
    return collation_at(paper, sequence, counts, index)


def fewest(paper, sequence):
    """Return the first collation with the fewest gatherings, or None if there is no collation."""
    check_book(paper, sequence)
    best = [None] * len(sequence) + [()]
    for begin in reversed(range(len(sequence))):
        # The ends ascend: of two with equally many gatherings the one found earlier comes first.
        for end in fold_ends(paper, sequence, begin):
            rest = best[end]
            if rest is not None and (best[begin] is None or len(rest) + 1 < len(best[begin])):
                best[begin] = ((end - begin) // 2,) + rest
    return best[0]


def largest(paper, sequence):
    """Return the largest number of sheets of a gathering in any collation, or None."""
    check_book(paper, sequence)
    counts = counts_behind(paper, sequence)
    if len(sequence) == 0 or counts[0] == 0:
        return None
    # The leaves from each such beginning on are collatable, and so is the whole: so are the leaves ahead of it.
    spans = [
        end - begin
        for begin in range(len(sequence))
        for end in fold_ends(paper, sequence, begin)
        if counts[end] > 0
    ]
    return max(spans) // 2

"""Misread marks: the collatable sequences that differ from what was read at the fewest leaves."""

from quiremarks.checks import check_between
from quiremarks.errors import NotPossible, TooLarge
from quiremarks.folds import exchanged, misfits_of_all
from quiremarks.papers import check_book

MOST_READ = 12


def check_read(sequence):
    """Raise an error unless the sequence has an even number of leaves, and not too many."""
    if len(sequence) % 2 == 1:
        raise NotPossible("odd")
    if len(sequence) > MOST_READ:
        raise TooLarge("leaves")


def all_ways(sheets):
    """Return the ascending list of all ways to split so many sheets."""
    found = [[()]]
    for many in range(1, sheets + 1):
        more = [(first,) + rest for first in range(1, many + 1) for rest in found[many - first]]
        found.append(more)
    return found[sheets]


def best_ways(paper, sequence):
    """Return the ascending list of all ways with the fewest mismatches."""
    all_of = all_ways(len(sequence) // 2)
    fewest = min([len(misfits_of_all(paper, sequence, way)) for way in all_of])
    return [way for way in all_of if len(misfits_of_all(paper, sequence, way)) == fewest]


def corrected(paper, sequence, way):
    """Return the list of what comes from the way by exchanging one of the two marks at each mismatch."""
    found = [sequence]
    for leaf, other in misfits_of_all(paper, sequence, way):
        first = [exchanged(leaves, leaf, paper[leaves[other]]) for leaves in found]
        second = [exchanged(leaves, other, paper[leaves[leaf]]) for leaves in found]
        found = first + second
    return found


def nearest_of(paper, sequence):
    """Return the ascending list of the nearest sequences."""
    return sorted({leaves for way in best_ways(paper, sequence) for leaves in corrected(paper, sequence, way)})


def fewest_misread(paper, sequence):
    """Return the fewest misread, a number."""
    check_book(paper, sequence)
    check_read(sequence)
    return len(misfits_of_all(paper, sequence, best_ways(paper, sequence)[0]))


def told_way(paper, sequence):
    """Return the first way with the fewest mismatches."""
    check_book(paper, sequence)
    check_read(sequence)
    return best_ways(paper, sequence)[0]


def ways(paper, sequence):
    """Return the ascending list of all ways with the fewest mismatches."""
    check_book(paper, sequence)
    check_read(sequence)
    return best_ways(paper, sequence)


def nearest(paper, sequence):
    """Return the ascending list of the nearest sequences."""
    check_book(paper, sequence)
    check_read(sequence)
    return nearest_of(paper, sequence)


def doubtful(paper, sequence):
    """Return the ascending tuple of the leaves at which some nearest sequence has another mark."""
    check_book(paper, sequence)
    check_read(sequence)
    found = nearest_of(paper, sequence)
    return tuple([leaf for leaf, mark in enumerate(sequence) if any([leaves[leaf] != mark for leaves in found])])


def possible_marks(paper, sequence, leaf):
    """Return the ascending tuple of the marks that nearest sequences have at the leaf."""
    check_book(paper, sequence)
    check_between("leaf", leaf, 0, len(sequence) - 1)
    check_read(sequence)
    return tuple(sorted({leaves[leaf] for leaves in nearest_of(paper, sequence)}))

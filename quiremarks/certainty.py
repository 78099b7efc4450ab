"""Certainty: what all collations of a sequence have, and what only some of them have.

A gathering told here is a triple: the openings at which it begins and ends, and
the number of the collations in which it stands, perhaps 0.
"""

from quiremarks.checks import check_between
from quiremarks.collations import counts_ahead, counts_behind, fold_ends
from quiremarks.errors import NotPossible
from quiremarks.factors import split_leaves
from quiremarks.papers import check_book


def factors_of(paper, sequence):
    """Return the factors of the sequence, which must be collatable."""
    factors, rest = split_leaves(paper, sequence)
    if len(rest) > 0:
        raise NotPossible("collation")
    return factors


def reason_of(factors):
    """Return the index of the first factor that comes again at once, and after how many steps, or None."""
    for index in range(len(factors)):
        for step in (1, 2):
            if index + step < len(factors) and factors[index] == factors[index + step]:
                return (index, step)
    return None


def gatherings_of(paper, sequence):
    """Return the list of the gatherings within the sequence, which must be collatable."""
    ahead = counts_ahead(paper, sequence)
    behind = counts_behind(paper, sequence)
    if behind[0] == 0:
        raise NotPossible("collation")
    return [
        (begin, end, ahead[begin] * behind[end])
        for begin in range(len(sequence))
        for end in fold_ends(paper, sequence, begin)
    ]


def times_boundary(gatherings, opening):
    """Return in how many collations the opening is a boundary."""
    # A gathering begins at each boundary, and else only at the first opening.
    return sum([times for begin, end, times in gatherings if 0 < begin == opening])


def times_center(gatherings, opening):
    """Return in how many collations the opening is the center of a gathering."""
    return sum([times for begin, end, times in gatherings if begin + end == 2 * opening])


def times_conjugate(gatherings, leaf, other):
    """Return in how many collations the two leaves are conjugate."""
    return sum([
        times for begin, end, times in gatherings if begin <= leaf < end and begin + end - 1 == leaf + other
    ])


def conjugate_leaves(paper, sequence, leaf):
    """Return the ascending tuple of the leaves to which the leaf is conjugate in some collation."""
    gatherings = gatherings_of(paper, sequence)
    return tuple([other for other in range(len(sequence)) if times_conjugate(gatherings, leaf, other) > 0])


def is_only(paper, sequence):
    """Tell whether the sequence has just one collation."""
    check_book(paper, sequence)
    return reason_of(factors_of(paper, sequence)) is None


def reason(paper, sequence):
    """Return the reason that the sequence has more than one collation, or None if it has just one."""
    check_book(paper, sequence)
    return reason_of(factors_of(paper, sequence))


def share(paper, sequence, opening):
    """Return in how many collations the opening is a boundary, and in how many a center."""
    check_book(paper, sequence)
    check_between("opening", opening, 0, len(sequence))
    gatherings = gatherings_of(paper, sequence)
    return (times_boundary(gatherings, opening), times_center(gatherings, opening))


def sure_boundaries(paper, sequence):
    """Return the ascending tuple of the openings that are boundaries in every collation."""
    check_book(paper, sequence)
    gatherings = gatherings_of(paper, sequence)
    many = counts_behind(paper, sequence)[0]
    return tuple([opening for opening in range(len(sequence)) if times_boundary(gatherings, opening) == many])


def possible_centers(paper, sequence):
    """Return the ascending tuple of the openings that are centers in some collation."""
    check_book(paper, sequence)
    gatherings = gatherings_of(paper, sequence)
    return tuple([opening for opening in range(len(sequence)) if times_center(gatherings, opening) > 0])


def possibly_conjugate(paper, sequence, leaf):
    """Return the ascending tuple of the leaves to which the leaf is conjugate in some collation."""
    check_book(paper, sequence)
    check_between("leaf", leaf, 0, len(sequence) - 1)
    return conjugate_leaves(paper, sequence, leaf)


def sure_pairs(paper, sequence):
    """Return the ascending tuple of the pairs of leaves that are conjugate in every collation."""
    check_book(paper, sequence)
    gatherings = gatherings_of(paper, sequence)
    many = counts_behind(paper, sequence)[0]
    return tuple([
        (leaf, other)
        for leaf in range(len(sequence))
        for other in range(leaf + 1, len(sequence))
        if times_conjugate(gatherings, leaf, other) == many
    ])

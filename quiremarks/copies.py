"""Copies of one edition, and the collations that all of them have in common.

Several copies are like one sequence each of whose marks tells the marks of all
of them: leaves are a gathering of it if and only if they are one in each copy.
"""

from quiremarks.checks import are_halves, check_between
from quiremarks.collations import counts_behind
from quiremarks.errors import BadValue
from quiremarks.factors import split_sheets
from quiremarks.folds import misfits_of_all
from quiremarks.papers import is_paper, is_sequence

MOST_COPIES = 3
SELECTIONS = ((0,), (1,), (2,), (0, 1), (0, 2), (1, 2), (0, 1, 2))


def is_copy(value):
    """Tell whether the value is a pair of a paper and a sequence of it."""
    return type(value) is tuple and len(value) == 2 and is_paper(value[0]) and is_sequence(value[0], value[1])


def are_copies(value):
    """Tell whether the value is copies."""
    if type(value) is not tuple or not 1 <= len(value) <= MOST_COPIES:
        return False
    if not all([is_copy(copy) for copy in value]):
        return False
    return all([len(copy[1]) == len(value[0][1]) for copy in value])


def check_copies(copies):
    """Raise BadValue unless the argument is copies."""
    if not are_copies(copies):
        raise BadValue("copies")


def woven(copies):
    """Return the one paper and the one sequence whose marks tell the marks of all copies."""
    paper, sequence = copies[0]
    for other, leaves in copies[1:]:
        many = len(other)
        paper = tuple([mark * many + entry for mark in paper for entry in other])
        sequence = tuple([mark * many + leaf for mark, leaf in zip(sequence, leaves)])
    return paper, sequence


def count_woven(copies):
    """Return the number of the common collations."""
    paper, sequence = woven(copies)
    return counts_behind(paper, sequence)[0]


def finest_woven(copies):
    """Return the finest common collation, or None."""
    paper, sequence = woven(copies)
    collation, rest = split_sheets(paper, sequence)
    if len(rest) > 0:
        return None
    return collation


def boundaries_of(collation):
    """Return the ascending list of the boundaries of the collation."""
    found = []
    opening = 0
    for many in collation[:-1]:
        opening = opening + 2 * many
        found.append(opening)
    return found


def finest_common(copies):
    """Return the finest common collation, or None if there is none."""
    check_copies(copies)
    return finest_woven(copies)


def count_common(copies):
    """Return the number of the common collations."""
    check_copies(copies)
    return count_woven(copies)


def sufficient(copies):
    """Return the told selection."""
    check_copies(copies)
    many = count_woven(copies)
    # What all copies have in common, those of a selection have: if they have no more, it is the same.
    found = [
        selection for selection in SELECTIONS
        if selection[-1] < len(copies) and count_woven([copies[index] for index in selection]) == many
    ]
    return found[0]


def conflict(copies, collation):
    """Return the conflict of the collation with the copies, or None if it is common."""
    check_copies(copies)
    if not are_halves(collation, len(copies[0][1])):
        raise BadValue("collation")
    for index, (paper, sequence) in enumerate(copies):
        found = misfits_of_all(paper, sequence, collation)
        if len(found) > 0:
            return (index,) + found[0]
    return None


def excluded(copies, copy):
    """Return the ascending tuple of the excluded boundaries of the copy, or None if no collation is common."""
    check_copies(copies)
    check_between("copy", copy, 0, len(copies) - 1)
    common = finest_woven(copies)
    if common is None:
        return None
    kept = boundaries_of(common)
    own = boundaries_of(finest_woven([copies[copy]]))
    return tuple([opening for opening in own if opening not in kept])

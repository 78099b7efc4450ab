"""Evidence whether a collatable sequence has just one collation."""

from quiremarks.certainty import factors_of, reason_of
from quiremarks.checks import is_between, is_told
from quiremarks.collations import collation_at, counts_behind, divides
from quiremarks.factors import split_leaves
from quiremarks.papers import check_book


def near_factors(factors):
    """Return the list of the pairs of each factor and the next one, and then of each one and the next but one."""
    return list(zip(factors, factors[1:])) + list(zip(factors, factors[2:]))


def different_places(factor, other):
    """Return the ascending list of the places within both factors at which their marks differ."""
    return [place for place in range(min(len(factor), len(other))) if factor[place] != other[place]]


def told_place(factor, other):
    """Return what is told of two factors that differ."""
    if len(factor) != len(other):
        return -1
    return different_places(factor, other)[0]


def shows_difference(factor, other, value):
    """Tell whether the value shows that the two factors differ."""
    if not is_between(value, -1, len(factor)):
        return False
    if value == -1:
        return len(factor) != len(other)
    return value in different_places(factor, other)


def shows_one(paper, sequence, places):
    """Tell whether the places show that the sequence has just one collation."""
    factors, rest = split_leaves(paper, sequence)
    near = near_factors(factors)
    if len(rest) > 0 or type(places) is not tuple or len(places) != len(near):
        return False
    return all([shows_difference(factor, other, place) for (factor, other), place in zip(near, places)])


def only_evidence(paper, sequence):
    """Return the told evidence whether the sequence, which must be collatable, has just one collation."""
    check_book(paper, sequence)
    factors = factors_of(paper, sequence)
    if reason_of(factors) is None:
        return ("one", tuple([told_place(factor, other) for factor, other in near_factors(factors)]))
    counts = counts_behind(paper, sequence)
    return ("two", collation_at(paper, sequence, counts, 0), collation_at(paper, sequence, counts, 1))


def accepts_only(paper, sequence, value):
    """Tell whether the value is evidence, of either word."""
    check_book(paper, sequence)
    if is_told(value, "one", 2):
        return shows_one(paper, sequence, value[1])
    if is_told(value, "two", 3):
        _, first, second = value
        return divides(paper, sequence, first) and divides(paper, sequence, second) and first != second
    return False

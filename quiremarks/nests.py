"""Evidence for the fewest missing leaves: pairs that leave so few, and tables by which none leave fewer."""

from quiremarks.checks import are_counts, check_between
from quiremarks.folds import are_counterparts
from quiremarks.missing import MOST_LEFT, are_valid, check_left, first_pairs
from quiremarks.tables import ends_of, nests_of, worths_of


def least_nest(paper, sequence, nests, begin, end):
    """Return the least integer that is right for the two openings, by those for openings nearer to each other."""
    bounds = [0]
    if begin < end:
        bounds.append(nests[begin + 1][end - begin - 1])
        bounds.append(nests[begin][end - begin - 1])
    if begin + 1 < end and are_counterparts(paper, sequence, begin, end - 1):
        bounds.append(nests[begin + 1][end - begin - 2] + 1)
    return max(bounds)


def are_right_nests(paper, sequence, value):
    """Tell whether the value is the nests of right tables."""
    openings = len(sequence) + 1
    if type(value) is not tuple or len(value) != openings:
        return False
    if not all([are_counts(row, openings - begin) for begin, row in enumerate(value)]):
        return False
    return all([
        value[begin][end - begin] >= least_nest(paper, sequence, value, begin, end)
        for begin in range(openings)
        for end in range(begin, openings)
    ])


def are_right_ends(nests, value):
    """Tell whether the value is the ends of right tables with these nests."""
    openings = len(nests)
    if not are_counts(value, openings):
        return False
    return all([
        value[begin] >= nests[begin][end - begin] + value[end]
        for begin in range(openings)
        for end in range(begin + 1, openings)
    ])


def bounds_pairs(paper, sequence, most, value):
    """Tell whether the value is right tables by which no valid pairs are more than so many."""
    if type(value) is not tuple or len(value) != 2:
        return False
    nests, ends = value
    if not are_right_nests(paper, sequence, nests) or not are_right_ends(nests, ends):
        return False
    return ends[0] <= most


def missing_evidence(paper, sequence):
    """Return the told pairs, and the right tables with the least integers."""
    check_left(paper, sequence)
    many = len(sequence)
    nests = nests_of(many, worths_of(paper, sequence))
    rows = [tuple(row[begin:]) for begin, row in enumerate(nests)]
    return (first_pairs(paper, sequence), (tuple(rows), tuple(ends_of(many, nests))))


def accepts_missing(paper, sequence, many, value):
    """Tell whether the value is evidence that the number is the fewest missing leaves."""
    check_left(paper, sequence)
    check_between("many", many, 0, MOST_LEFT)
    if type(value) is not tuple or len(value) != 2:
        return False
    pairs, tables = value
    if not are_valid(paper, sequence, pairs) or len(sequence) - 2 * len(pairs) != many:
        return False
    return bounds_pairs(paper, sequence, len(pairs), tables)

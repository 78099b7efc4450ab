"""Evidence for the fewest misread: a way with so few mismatches, and a table by which no way has fewer.

The table has a number for each even opening, so its places are the numbers of
the sheets ahead of these openings.
"""

from quiremarks.checks import are_counts, are_halves, check_between
from quiremarks.folds import misfits, misfits_of_all
from quiremarks.misread import MOST_READ, best_ways, check_read
from quiremarks.papers import check_book


def most_at(paper, sequence, table, place):
    """Return the greatest number that the table can have at the place, by those ahead of it."""
    sums = [table[begin] + len(misfits(paper, sequence, 2 * begin, 2 * place)) for begin in range(place)]
    return min(sums)


def told_table(paper, sequence):
    """Return the table with the fewest misread of the leaves before each even opening."""
    table = [0]
    for place in range(1, len(sequence) // 2 + 1):
        table.append(most_at(paper, sequence, table, place))
    return tuple(table)


def has_mismatches(paper, sequence, many, value):
    """Tell whether the value is a way to split the sequence with so many mismatches."""
    return are_halves(value, len(sequence)) and len(misfits_of_all(paper, sequence, value)) == many


def is_table(paper, sequence, many, value):
    """Tell whether the value is a table by which no way has fewer mismatches than so many."""
    if not are_counts(value, len(sequence) // 2 + 1):
        return False
    if value[0] != 0 or value[-1] != many:
        return False
    return all([value[place] <= most_at(paper, sequence, value, place) for place in range(1, len(value))])


def misread_evidence(paper, sequence):
    """Return the told way and the told table."""
    check_book(paper, sequence)
    check_read(sequence)
    return (best_ways(paper, sequence)[0], told_table(paper, sequence))


def accepts_misread(paper, sequence, many, value):
    """Tell whether the value is evidence that the fewest misread are so many."""
    check_book(paper, sequence)
    check_between("many", many, 0, MOST_READ)
    check_read(sequence)
    if type(value) is not tuple or len(value) != 2:
        return False
    way, table = value
    return has_mismatches(paper, sequence, many, way) and is_table(paper, sequence, many, table)

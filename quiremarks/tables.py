"""Tables of the most pairs of leaves that nests can have, which the chapter of missing leaves needs.

Worths are a dict with what each pair of leaves counts that can be in a nest.
"""

from quiremarks.folds import are_counterparts


def worths_of(paper, sequence):
    """Return the worths by which each pair of leaves counts 1, the pairs in ascending order."""
    return {
        (one, other): 1
        for one in range(len(sequence))
        for other in range(one + 1, len(sequence))
        if are_counterparts(paper, sequence, one, other)
    }


def nests_of(many, worths):
    """Return, for each two openings of so many leaves, the most that one nest between them can count."""
    nests = [[0] * (many + 1) for _ in range(many + 1)]
    for begin in reversed(range(many)):
        for end in range(begin + 2, many + 1):
            most = max(nests[begin + 1][end], nests[begin][end - 1])
            outer = (begin, end - 1)
            if outer in worths:
                most = max(most, nests[begin + 1][end - 1] + worths[outer])
            nests[begin][end] = most
    return nests


def ends_of(many, nests):
    """Return, for each opening, the most that nests behind it can count, side by side."""
    ends = [0] * (many + 1)
    for begin in reversed(range(many)):
        ends[begin] = max([nests[begin][end] + ends[end] for end in range(begin + 1, many + 1)])
    return ends


def most_of(many, worths):
    """Return the most that nests of so many leaves can count, side by side."""
    return ends_of(many, nests_of(many, worths))[0]

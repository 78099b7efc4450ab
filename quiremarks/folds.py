"""What the chapters share about leaves that are known to be marks of the paper.

Nothing is checked here, and the leaves can be of any number: parts of a
sequence, or a sequence with leaves put in.
"""


def mirrored(paper, leaves):
    """Return the leaves reflected."""
    return tuple([paper[mark] for mark in leaves[::-1]])


def exchanged(items, place, item):
    """Return the tuple with another item at the place."""
    return items[:place] + (item,) + items[place + 1:]


def is_fold(paper, leaves):
    """Tell whether the leaves are a gathering."""
    if len(leaves) == 0 or len(leaves) % 2 == 1:
        return False
    return leaves == mirrored(paper, leaves)


def folded_pairs(begin, end):
    """Return the list of the pairs of leaves that a gathering of these leaves has, from the outermost sheet inward."""
    return [(leaf, begin + end - 1 - leaf) for leaf in range(begin, (begin + end) // 2)]


def are_counterparts(paper, leaves, leaf, other):
    """Tell whether the marks of the two leaves are counterparts."""
    return paper[leaves[leaf]] == leaves[other]


def misfits(paper, leaves, begin, end):
    """Return the list of those of these pairs whose marks are no counterparts."""
    pairs = folded_pairs(begin, end)
    return [(leaf, other) for leaf, other in pairs if not are_counterparts(paper, leaves, leaf, other)]


def misfits_of_all(paper, leaves, sheets):
    """Return the list of the misfits of gatherings of so many sheets, one behind another."""
    found = []
    begin = 0
    for many in sheets:
        found.extend(misfits(paper, leaves, begin, begin + 2 * many))
        begin = begin + 2 * many
    return found


def closing_leaves(paper, leaves):
    """Return the fewest leaves that make a gathering of the leaves, put behind them."""
    # The earlier the gathering at the end begins, the fewer leaves are to be repeated.
    for begin in range(len(leaves)):
        if is_fold(paper, leaves[begin:]):
            return mirrored(paper, leaves[:begin])
    return mirrored(paper, leaves)

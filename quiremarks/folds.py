"""What the chapters share about leaves that are known to be marks of the paper.

Nothing is checked here, and the leaves can be of any number: parts of a
sequence, or a sequence with leaves put in.
"""


def mirrored(paper, leaves):
    """Return the leaves reflected."""
    return tuple([paper[mark] for mark in leaves[::-1]])


def is_fold(paper, leaves):
    """Tell whether the leaves are a gathering."""
    if len(leaves) == 0 or len(leaves) % 2 == 1:
        return False
    return leaves == mirrored(paper, leaves)


def closing_leaves(paper, leaves):
    """Return the fewest leaves that make a gathering of the leaves, put behind them."""
    # The earlier the gathering at the end begins, the fewer leaves are to be repeated.
    for begin in range(len(leaves)):
        if is_fold(paper, leaves[begin:]):
            return mirrored(paper, leaves[:begin])
    return mirrored(paper, leaves)

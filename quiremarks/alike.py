"""Renamings of a paper, and sequences that are alike.

Names are a dict with the new mark of each mark that has one by now. A mark and
its counterpart get theirs together, so what is left is always a paper's rest of
own marks and whole pairs: each choice leaves equally many renamings.
"""

from math import factorial

from quiremarks.checks import are_between, check_between
from quiremarks.papers import check_book, check_paper, check_sequence, mark_pairs, own_marks


def free_marks(paper, names, mark):
    """Return the ascending list of the new marks that are left for a mark without one."""
    taken = list(names.values())
    own = paper[mark] == mark
    return [new for new in range(len(paper)) if new not in taken and (paper[new] == new) == own]


def give_name(paper, names, mark, new):
    """Give a mark and its counterpart their new marks."""
    names[mark] = new
    names[paper[mark]] = paper[new]


def give_least_names(paper, names, marks):
    """Give each of the marks that has none the least new mark that is left for it."""
    for mark in marks:
        if mark not in names:
            give_name(paper, names, mark, free_marks(paper, names, mark)[0])


def renaming_of(paper, names):
    """Return the tuple of the new marks of all marks."""
    return tuple([names[mark] for mark in range(len(paper))])


def count_renamings(paper):
    """Return the number of the renamings of the paper."""
    pairs = len(mark_pairs(paper))
    count = factorial(len(own_marks(paper))) * factorial(pairs)
    for _ in range(pairs):
        count = count * 2
    return count


def nth_renaming(paper, index):
    """Return the renaming with the index."""
    many = count_renamings(paper)
    check_between("index", index, 0, many - 1)
    names = {}
    ahead = index
    for mark in range(len(paper)):
        if mark not in names:
            free = free_marks(paper, names, mark)
            many = many // len(free)
            give_name(paper, names, mark, free[ahead // many])
            ahead = ahead % many
    return renaming_of(paper, names)


def first_alike(paper, sequence):
    """Return the first one of the sequences that are like the sequence."""
    check_book(paper, sequence)
    names = {}
    give_least_names(paper, names, sequence)
    return tuple([names[mark] for mark in sequence])


def count_alike(paper, sequence):
    """Return the number of the sequences that are like the sequence."""
    check_book(paper, sequence)
    names = {}
    count = 1
    for mark in sequence:
        if mark not in names:
            free = free_marks(paper, names, mark)
            count = count * len(free)
            give_name(paper, names, mark, free[0])
    return count


def names_between(paper, first, second):
    """Return the names of the marks of the first sequence that lead to the second one, or None."""
    if len(first) != len(second):
        return None
    names = {}
    for mark, new in zip(first, second):
        if mark not in names:
            if new not in free_marks(paper, names, mark):
                return None
            give_name(paper, names, mark, new)
        elif names[mark] != new:
            return None
    return names


def check_two(paper, first, second):
    """Check the arguments of a function of two sequences."""
    check_paper(paper)
    check_sequence("first", paper, first)
    check_sequence("second", paper, second)


def renaming(paper, first, second):
    """Return the first renaming that leads from the first sequence to the second one, or None."""
    check_two(paper, first, second)
    names = names_between(paper, first, second)
    if names is None:
        return None
    give_least_names(paper, names, list(range(len(paper))))
    return renaming_of(paper, names)


def is_renaming(paper, value):
    """Tell whether the value is a renaming of the paper."""
    if not are_between(value, 0, len(paper) - 1):
        return False
    if len(value) != len(paper) or len(set(value)) != len(value):
        return False
    return all([value[paper[mark]] == paper[value[mark]] for mark in range(len(paper))])


def accepts_renaming(paper, first, second, value):
    """Tell whether the value is a renaming that leads from the first sequence to the second one."""
    check_two(paper, first, second)
    if not is_renaming(paper, value) or len(first) != len(second):
        return False
    return all([value[mark] == new for mark, new in zip(first, second)])

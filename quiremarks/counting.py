"""Counted sequences: how many there are of each kind, counted by their factors and without a list of them.

Counts are a list with a number for each number of sheets, from 0 on.
"""

from quiremarks.checks import check_between

MOST_KINDS = 26
MOST_COUNTED = 30


def check_counted(marks, sheets, least):
    """Check the two arguments with which all functions of this chapter begin."""
    check_between("marks", marks, 1, MOST_KINDS)
    check_between("sheets", sheets, least, MOST_COUNTED)


def powers_to(base, most):
    """Return the list of the powers of the base, from the power of 0 to that of the most."""
    powers = [1]
    for _ in range(most):
        powers.append(powers[-1] * base)
    return powers


def primes_to(marks, most):
    """Return the counts of the primes of up to so many sheets."""
    powers = powers_to(marks, most)
    primes = [0]
    for sheets in range(1, most + 1):
        # A gathering that is not prime has a shortest one at its beginning and its end, and anything between them.
        others = [primes[outer] * powers[sheets - 2 * outer] for outer in range(1, sheets // 2 + 1)]
        primes.append(powers[sheets] - sum(others))
    return primes


def with_last(primes, counts, sheets):
    """Return how many sequences of so many sheets are one that was counted, and a prime behind it."""
    return sum([primes[last] * counts[sheets - last] for last in range(1, sheets + 1)])


def last_two_to(primes):
    """Return, for each number of sheets, how many sequences have just one collation, by their last two factors.

    Each is told by a dict: its keys are the pairs of the numbers of sheets of the
    last factor but one and of the last one, 0 where there is none.
    """
    found = [{(0, 0): 1}]
    for sheets in range(1, len(primes)):
        counts = {}
        for new in range(1, sheets + 1):
            for two, many in found[sheets - new].items():
                # The last two are different primes: each that has as many sheets as the new one leaves one less for it.
                pair = (two[1], new)
                counts[pair] = counts.get(pair, 0) + many * (primes[new] - two.count(new))
        found.append(counts)
    return found


def count_gatherings(marks, sheets):
    """Return how many gatherings with so many sheets there are."""
    check_counted(marks, sheets, 1)
    return powers_to(marks, sheets)[sheets]


def count_primes(marks, sheets):
    """Return how many primes with so many sheets there are."""
    check_counted(marks, sheets, 1)
    return primes_to(marks, sheets)[sheets]


def count_collatable(marks, sheets):
    """Return how many collatable sequences of so many sheets there are."""
    check_counted(marks, sheets, 0)
    primes = primes_to(marks, sheets)
    counts = [1]
    for many in range(1, sheets + 1):
        counts.append(with_last(primes, counts, many))
    return counts[sheets]


def count_with_factors(marks, sheets, factors):
    """Return how many collatable sequences of so many sheets have so many factors."""
    check_counted(marks, sheets, 0)
    check_between("factors", factors, 0, MOST_COUNTED)
    primes = primes_to(marks, sheets)
    counts = [1] + [0] * sheets
    for _ in range(factors):
        counts = [with_last(primes, counts, many) for many in range(sheets + 1)]
    return counts[sheets]


def count_collations(marks, sheets):
    """Return how many collations all sequences of so many sheets have together."""
    check_counted(marks, sheets, 0)
    if sheets == 0:
        return 1
    return powers_to(marks, sheets)[sheets] * powers_to(2, sheets)[sheets - 1]


def count_only(marks, sheets):
    """Return how many sequences of so many sheets have just one collation."""
    check_counted(marks, sheets, 0)
    counts = last_two_to(primes_to(marks, sheets))[sheets]
    return sum(counts.values())

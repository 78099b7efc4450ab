"""Centers: the gatherings within a sequence, by the openings that they are folded at."""

from quiremarks.checks import check_between
from quiremarks.papers import check_book


def radius_at(paper, sequence, opening):
    """Return the radius of the opening."""
    many = 0
    for mark, other in zip(sequence[:opening][::-1], sequence[opening:]):
        if paper[mark] != other:
            return many
        many = many + 1
    return many


def all_radii(paper, sequence):
    """Return the list of the radii of all openings."""
    return [radius_at(paper, sequence, opening) for opening in range(len(sequence) + 1)]


def all_within(paper, sequence):
    """Return the ascending list of the gatherings within the sequence."""
    found = []
    for opening, most in enumerate(all_radii(paper, sequence)):
        for many in range(1, most + 1):
            found.append((opening - many, many))
    return sorted(found)


def radius(paper, sequence, opening):
    """Return the radius of the opening."""
    check_book(paper, sequence)
    check_between("opening", opening, 0, len(sequence))
    return radius_at(paper, sequence, opening)


def radii(paper, sequence):
    """Return the tuple of the radii of all openings, from 0 on."""
    check_book(paper, sequence)
    return tuple(all_radii(paper, sequence))


def gatherings_within(paper, sequence):
    """Return the ascending list of the gatherings within the sequence."""
    check_book(paper, sequence)
    return all_within(paper, sequence)


def largest_within(paper, sequence):
    """Return the first gathering within the sequence of those with the most sheets, or None."""
    check_book(paper, sequence)
    largest = None
    for within in all_within(paper, sequence):
        if largest is None or within[1] > largest[1]:
            largest = within
    return largest

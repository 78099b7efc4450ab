"""Threads: what is seen at openings tells of collations, for a gathering is sewn through its center alone.

Looks are the observations of somebody who looks at all openings of a
collation. No two collations of a sequence have the same looks.
"""

from quiremarks.checks import check_between
from quiremarks.collations import all_collations, divides
from quiremarks.errors import BadValue
from quiremarks.papers import check_book

SEEN = ("t", "n", "?")


def are_observations(sequence, value):
    """Tell whether the value is observations of the sequence."""
    if type(value) is not tuple or len(value) != max(0, len(sequence) - 1):
        return False
    return all([type(item) is str and item in SEEN for item in value])


def check_observed(paper, sequence, observations):
    """Check the three arguments with which most functions of this chapter begin."""
    check_book(paper, sequence)
    if not are_observations(sequence, observations):
        raise BadValue("observations")


def looks_at(sequence, collation):
    """Return the looks of the collation."""
    found = ["n"] * (len(sequence) - 1)
    begin = 0
    for many in collation:
        # Nothing can be seen at the opening 0, so the place of an opening is one less.
        found[begin + many - 1] = "t"
        begin = begin + 2 * many
    return tuple(found)


def all_looks(paper, sequence):
    """Return the list of the looks of all collations."""
    return [looks_at(sequence, collation) for collation in all_collations(paper, sequence)]


def count_contradicted(observations, looks):
    """Return how many observations a collation with these looks contradicts."""
    return len([seen for seen, look in zip(observations, looks) if seen not in ("?", look)])


def agreeing_looks(paper, sequence, observations):
    """Return the list of the looks of the collations that agree."""
    return [looks for looks in all_looks(paper, sequence) if count_contradicted(observations, looks) == 0]


def common_look(column):
    """Return the look that all of these are, or "?" if there are both."""
    if all([look == column[0] for look in column]):
        return column[0]
    return "?"


def count_agreeing(paper, sequence, observations):
    """Return the number of the collations that agree."""
    check_observed(paper, sequence, observations)
    return len(agreeing_looks(paper, sequence, observations))


def nearest_collation(paper, sequence, observations):
    """Return the nearest collation and how many observations it contradicts, or None if there is no collation."""
    check_observed(paper, sequence, observations)
    found = None
    for collation in all_collations(paper, sequence):
        many = count_contradicted(observations, looks_at(sequence, collation))
        if found is None or many < found[1]:
            found = (collation, many)
    return found


def implied(paper, sequence, observations):
    """Return what is implied, or None if no collation agrees."""
    check_observed(paper, sequence, observations)
    rows = agreeing_looks(paper, sequence, observations)
    if len(rows) == 0:
        return None
    # Where somebody looked, all that agree have what was seen.
    return tuple([common_look([row[place] for row in rows]) for place in range(len(observations))])


def fails_at(paper, sequence, observations):
    """Return the number at which the observations fail, or None."""
    check_observed(paper, sequence, observations)
    rows = all_looks(paper, sequence)
    if len(rows) == 0:
        return 0
    for place, seen in enumerate(observations):
        rows = [row for row in rows if seen in ("?", row[place])]
        if len(rows) == 0:
            return place + 1
    return None


def next_opening(paper, sequence, observations):
    """Return the next opening to look at, or None."""
    check_observed(paper, sequence, observations)
    rows = agreeing_looks(paper, sequence, observations)
    if len(rows) <= 1:
        return None
    lesser = []
    for place in range(len(observations)):
        column = [row[place] for row in rows]
        lesser.append(min(column.count("t"), column.count("n")))
    # Two that agree differ somewhere: the greatest is above 0, and it is 0 wherever somebody looked.
    return lesser.index(max(lesser)) + 1


def looks_of(paper, sequence, collation):
    """Return the observations of somebody who looks at all openings of the collation."""
    check_book(paper, sequence)
    if not divides(paper, sequence, collation):
        raise BadValue("collation")
    return looks_at(sequence, collation)


def accepts_open(paper, sequence, observations, opening, value):
    """Tell whether the value is evidence that the opening is not implied."""
    check_observed(paper, sequence, observations)
    check_between("opening", opening, 1, len(sequence) - 1)
    if type(value) is not tuple or len(value) != 2:
        return False
    if not all([divides(paper, sequence, collation) for collation in value]):
        return False
    first, other = [looks_at(sequence, collation) for collation in value]
    if count_contradicted(observations, first) > 0 or count_contradicted(observations, other) > 0:
        return False
    return first[opening - 1] == "t" and other[opening - 1] == "n"

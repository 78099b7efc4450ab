"""Missing leaves: how few there are, and what the sequence was with them."""

from quiremarks.checks import are_between, check_between
from quiremarks.errors import BadValue
from quiremarks.folds import are_counterparts, mirrored
from quiremarks.papers import check_book
from quiremarks.tables import ends_of, most_of, nests_of, worths_of

MOST_LEFT = 12


def check_left(paper, sequence):
    """Check the two arguments with which the functions of this chapter begin."""
    check_book(paper, sequence)
    if len(sequence) > MOST_LEFT:
        raise BadValue("sequence")


def is_pair(paper, sequence, value):
    """Tell whether the value is a pair of leaves."""
    if not are_between(value, 0, len(sequence) - 1) or len(value) != 2:
        return False
    return value[0] < value[1] and are_counterparts(paper, sequence, value[0], value[1])


def is_inside(pair, outer):
    """Tell whether the pair lies inside the other one."""
    return outer[0] < pair[0] and pair[1] < outer[1]


def are_apart(pair, other):
    """Tell whether the two pairs are apart."""
    return pair[1] < other[0] or other[1] < pair[0]


def are_nested(pair, later):
    """Tell whether each of the later pairs lies inside the pair or is apart from it, and no two inside it are apart."""
    inside = [other for other in later if is_inside(other, pair)]
    if not all([other in inside or are_apart(pair, other) for other in later]):
        return False
    return not any([are_apart(one, other) for one in inside for other in inside])


def are_valid(paper, sequence, value):
    """Tell whether the value is valid pairs."""
    if type(value) is not tuple or not all([is_pair(paper, sequence, pair) for pair in value]):
        return False
    if not all([pair < other for pair, other in zip(value, value[1:])]):
        return False
    # What lies inside a pair begins behind it, so it is enough to look at the later ones.
    return all([are_nested(pair, value[place + 1:]) for place, pair in enumerate(value)])


def most_pairs(paper, sequence):
    """Return the number of the greatest valid pairs."""
    return most_of(len(sequence), worths_of(paper, sequence))


def most_pairs_with(paper, sequence, pair):
    """Return the number of the greatest ones of those valid pairs that have this pair."""
    many = len(sequence)
    worths = worths_of(paper, sequence)
    # Worth more than all other pairs, it is in what counts most.
    worths[pair] = many + 1
    return most_of(many, worths) - many


def first_pairs(paper, sequence):
    """Return the told pairs."""
    many = len(sequence)
    worths = worths_of(paper, sequence)
    nests = nests_of(many, worths)
    ends = ends_of(many, nests)
    found = []
    # The pairs ascend: the next one lies inside the last one, ahead of end, or behind the last nest.
    end, behind = 0, 0
    for one, other in worths:
        new_behind = other + 1
        if other < end:
            new_behind = behind
        elif one < behind:
            continue
        if len(found) + 1 + nests[one + 1][other] + ends[new_behind] == ends[0]:
            found.append((one, other))
            end, behind = other, new_behind
    return tuple(found)


def other_leaves(paper, sequence, leaf):
    """Return the ascending list of the leaves with which the leaf is a pair of some greatest valid pairs."""
    most = most_pairs(paper, sequence)
    return [
        sum(pair) - leaf for pair in worths_of(paper, sequence)
        if leaf in pair and most_pairs_with(paper, sequence, pair) == most
    ]


def split_nests(pairs):
    """Return the list of the nests of valid pairs, each a list of its pairs from the outermost inward."""
    found = []
    for pair in pairs:
        if len(found) > 0 and is_inside(pair, found[-1][0]):
            found[-1].append(pair)
        else:
            found.append([pair])
    return found


def half_of(paper, sequence, nest):
    """Return the first half of the gathering that the nest becomes."""
    half = ()
    for (one, other), (inner, last) in zip(nest, nest[1:]):
        half = half + sequence[one:inner] + mirrored(paper, sequence[last + 1:other])
    one, other = nest[-1]
    return half + sequence[one:other]


def fewest_missing(paper, sequence):
    """Return the number of the fewest missing leaves."""
    check_left(paper, sequence)
    return len(sequence) - 2 * most_pairs(paper, sequence)


def told_pairs(paper, sequence):
    """Return the first ones of the greatest valid pairs."""
    check_left(paper, sequence)
    return first_pairs(paper, sequence)


def accepts_pairs(paper, sequence, value):
    """Tell whether the value is valid pairs."""
    check_left(paper, sequence)
    return are_valid(paper, sequence, value)


def restored(paper, sequence, pairs):
    """Return the sequence that the valid pairs restore, and a collation of it."""
    check_left(paper, sequence)
    if not are_valid(paper, sequence, pairs):
        raise BadValue("pairs")
    halves = []
    opening = 0
    for nest in split_nests(pairs):
        begin, last = nest[0]
        halves.extend([(mark,) for mark in sequence[opening:begin]])
        halves.append(half_of(paper, sequence, nest))
        opening = last + 1
    halves.extend([(mark,) for mark in sequence[opening:]])
    whole = ()
    for half in halves:
        whole = whole + half + mirrored(paper, half)
    return whole, tuple([len(half) for half in halves])


def paired_with(paper, sequence, leaf):
    """Return the ascending tuple of the leaves with which the leaf is a pair of some greatest valid pairs."""
    check_left(paper, sequence)
    check_between("leaf", leaf, 0, len(sequence) - 1)
    return tuple(other_leaves(paper, sequence, leaf))


def always_paired(paper, sequence):
    """Return the ascending tuple of the leaves that are in a pair of all greatest valid pairs."""
    check_left(paper, sequence)
    most = most_pairs(paper, sequence)
    return tuple([
        leaf for leaf in range(len(sequence))
        if most_pairs(paper, sequence[:leaf] + sequence[leaf + 1:]) < most
    ])


def never_paired(paper, sequence):
    """Return the ascending tuple of the leaves that are in a pair of no greatest valid pairs."""
    check_left(paper, sequence)
    return tuple([leaf for leaf in range(len(sequence)) if len(other_leaves(paper, sequence, leaf)) == 0])

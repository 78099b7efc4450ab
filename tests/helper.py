"""What several tests need: the words of the document, done in the plainest way, and wrong values."""

from itertools import permutations, product

from quiremarks.errors import BadValue


def nested(depth, kind=tuple):
    """A value nested so deep that nothing may go down into it."""
    value = kind()
    for _ in range(depth):
        value = kind([value])
    return value


DEEP = nested(100000)
DEEP_LIST = nested(100000, list)

# Values that are neither papers nor sequences of any paper, indexes or openings.
OTHER_KINDS = [
    None, True, False, -1, "", "a", "01", [], [0], [[0]], {}, (None,), ("0",), (True,), (False,), ((0,),), ([0],),
    ((),), (-1,), (10 ** 30,), DEEP, DEEP_LIST, (0, DEEP), (DEEP, 0),
]


def all_papers(most):
    """Every paper of up to so many marks."""
    found = []
    for many in range(1, most + 1):
        for paper in product(range(many), repeat=many):
            if all(paper[paper[mark]] == mark for mark in range(many)):
                found.append(paper)
    return found


def all_sequences(paper, most, least=0):
    """Every sequence of the paper of so many leaves."""
    return [
        sequence for many in range(least, most + 1) for sequence in product(range(len(paper)), repeat=many)
    ]


def all_renamings(paper):
    """Every renaming, in order: permutations come in the order of tuples."""
    marks = range(len(paper))
    return [names for names in permutations(marks) if all(names[paper[m]] == paper[names[m]] for m in marks)]


def renamed_paper(paper, names):
    """The paper after its marks were exchanged, mark m for names[m]."""
    entries = {names[mark]: names[counterpart] for mark, counterpart in enumerate(paper)}
    return tuple(entries[mark] for mark in range(len(paper)))


def renamed(leaves, names):
    return tuple(names[mark] for mark in leaves)


def mirror(paper, leaves):
    found = []
    for mark in leaves:
        found.insert(0, paper[mark])
    return tuple(found)


def folds(paper, leaves):
    """Whether the leaves are a gathering, in the words of point 6."""
    return len(leaves) >= 2 and len(leaves) % 2 == 0 and mirror(paper, leaves) == leaves


def compositions(total):
    """Every tuple of integers from 1 on that make up the total, in order."""
    if total == 0:
        return [()]
    return [(first, *rest) for first in range(1, total + 1) for rest in compositions(total - first)]


def parts(sequence, collation):
    """The leaves of each gathering of a collation."""
    found = []
    begin = 0
    for sheets in collation:
        found.append(sequence[begin:begin + 2 * sheets])
        begin += 2 * sheets
    return found


def all_collations(paper, sequence):
    """Every collation of the sequence, in order."""
    if len(sequence) % 2 == 1:
        return []
    splits = compositions(len(sequence) // 2)
    return [split for split in splits if all(folds(paper, part) for part in parts(sequence, split))]


def is_collatable(paper, leaves, known={}):
    """Whether some gatherings one behind another are the leaves; answers are kept, for leaves come often."""
    if len(leaves) == 0:
        return True
    key = (paper, leaves)
    if key not in known:
        known[key] = any(
            folds(paper, leaves[:many]) and is_collatable(paper, leaves[many:])
            for many in range(2, len(leaves) + 1, 2)
        )
    return known[key]


def wrong_papers():
    """Values that are no papers."""
    return [
        *OTHER_KINDS, (), 0, 7, (1,), (1, 1), (0, 0), (1, 2, 0), (0, 2), (0, -1), (True, 0), (1, False), (True, False),
        [0, 1], [1, 0], (0, 1, 2, 3, 4, 5, 6), (0, None), ("a", "b"), ((0,), 1), (0, 1, 2, 3, 4, 6),
    ]


def wrong_sequences(paper):
    """Values that are no sequences of the paper."""
    many = len(paper)
    return [
        *OTHER_KINDS, 0, (many,), (0, many), (0, -1), (0, True), (0, False, 0), [0, 0], [*range(many)], (0,) * 17,
        (0,) * 100, (0, "0"), ((0, 0), 0), {0: 0},
    ]


def wrong_integers(low, high):
    """Values that are no integers from low to high."""
    return [
        None, True, False, "", "0", "1", [], [0], (), (0,), DEEP, DEEP_LIST, low - 1, high + 1, low - 100, high + 100,
        -10 ** 30, 10 ** 30,
    ]


def assert_bad(case, name, function, arguments):
    """The call raises BadValue with the name."""
    try:
        function(*arguments)
    except BadValue as error:
        case.assertEqual(error.name, name)
        return
    case.fail(f"{function.__name__} took a wrong {name}")


def assert_checks(case, function, good, wrong):
    """Each wrong value is refused by its name: alone, and with a wrong value in every later place, too.

    wrong has, for each argument, the pair of its name and of a list of wrong values
    (an empty one for what is judged, where every value is valid).
    """
    function(*good)
    for place, (name, values) in enumerate(wrong):
        later = [row[0] if row else good[place + 1 + at] for at, (_, row) in enumerate(wrong[place + 1:])]
        for value in values:
            assert_bad(case, name, function, [*good[:place], value, *good[place + 1:]])
            assert_bad(case, name, function, [*good[:place], value, *later])

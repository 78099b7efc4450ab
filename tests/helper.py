"""What several tests need: the words of the document, done in the plainest way, and wrong values."""

from itertools import permutations, product

from quiremarks.errors import BadValue, NotPossible, TextError, TooLarge


def nested(depth, kind=tuple):
    """A value nested so deep that nothing may go down into it."""
    value = kind()
    for _ in range(depth):
        value = kind([value])
    return value


DEEP = nested(100000)
DEEP_LIST = nested(100000, list)


class Anything:
    """An object that says of itself to equal all others, which is none of what the document names."""

    def __eq__(self, other):
        return True

    __hash__ = None


# Values that are neither papers nor sequences of any paper, indexes or openings.
OTHER_KINDS = [
    None, True, False, -1, "", "a", "01", [], [0], [[0]], {}, (None,), ("0",), (True,), (False,), ((0,),), ([0],),
    ((),), (-1,), (10 ** 30,), DEEP, DEEP_LIST, (0, DEEP), (DEEP, 0), Anything(), (Anything(),),
]


def all_papers(most):
    """Every paper of up to so many marks."""
    found = []
    for many in range(1, most + 1):
        for paper in product(range(many), repeat=many):
            if all(paper[paper[mark]] == mark for mark in range(many)):
                found.append(paper)
    return found


def all_sequences(paper, most, least=0):
    """Every sequence of the paper of so many leaves."""
    return [
        sequence for many in range(least, most + 1) for sequence in product(range(len(paper)), repeat=many)
    ]


def all_renamings(paper):
    """Every renaming, in order: permutations come in the order of tuples."""
    marks = range(len(paper))
    return [names for names in permutations(marks) if all(names[paper[m]] == paper[names[m]] for m in marks)]


def renamed_paper(paper, names):
    """The paper after its marks were exchanged, mark m for names[m]."""
    entries = {names[mark]: names[counterpart] for mark, counterpart in enumerate(paper)}
    return tuple(entries[mark] for mark in range(len(paper)))


def renamed(leaves, names):
    return tuple(names[mark] for mark in leaves)


def mirror(paper, leaves):
    found = []
    for mark in leaves:
        found.insert(0, paper[mark])
    return tuple(found)


def folds(paper, leaves):
    """Whether the leaves are a gathering, in the words of point 6."""
    return len(leaves) >= 2 and len(leaves) % 2 == 0 and mirror(paper, leaves) == leaves


def compositions(total):
    """Every tuple of integers from 1 on that make up the total, in order."""
    if total == 0:
        return [()]
    return [(first, *rest) for first in range(1, total + 1) for rest in compositions(total - first)]


def parts(sequence, collation):
    """The leaves of each gathering of a collation."""
    found = []
    begin = 0
    for sheets in collation:
        found.append(sequence[begin:begin + 2 * sheets])
        begin += 2 * sheets
    return found


def all_collations(paper, sequence):
    """Every collation of the sequence, in order."""
    if len(sequence) % 2 == 1:
        return []
    splits = compositions(len(sequence) // 2)
    return [split for split in splits if all(folds(paper, part) for part in parts(sequence, split))]


def is_collatable(paper, leaves, known={}):
    """Whether some gatherings one behind another are the leaves; answers are kept, for leaves come often."""
    if len(leaves) == 0:
        return True
    key = (paper, leaves)
    if key not in known:
        known[key] = any(
            folds(paper, leaves[:many]) and is_collatable(paper, leaves[many:])
            for many in range(2, len(leaves) + 1, 2)
        )
    return known[key]


def plain_factors(paper, leaves):
    """The factors and the remainder of the leaves, in the words of point 7."""
    for many in range(2, len(leaves) + 1, 2):
        if folds(paper, leaves[:many]):
            factors, rest = plain_factors(paper, leaves[many:])
            return (leaves[:many], *factors), rest
    return (), leaves


PATTERNS = [(2,), (0, 1), (0, 1, 1, 0), (0, 0, 1, 1), (2, 2, 0, 1), (0, 2, 2, 1), (0, 1, 2)]


def folded(paper, pattern, collation):
    """A sequence with this collation, whose gatherings begin with the marks of the pattern."""
    sequence = ()
    for sheets in collation:
        half = (pattern * 8)[:sheets]
        sequence += half + mirror(paper, half)
    return sequence


def book_cases():
    """Papers and sequences of all lengths up to 16, with all of their collations: none, one, few or many."""
    paper = (1, 0, 2)
    found = [(small, sequence) for small in all_papers(2) for sequence in all_sequences(small, 6)]
    for pattern in PATTERNS:
        for many in range(17):
            sequence = (pattern * 16)[:many]
            found += [(paper, sequence), (paper, sequence[:-1] + (0,)), (paper, (1, *sequence)[:many])]
    for pattern in PATTERNS[:5]:
        for sheets in range(6, 9):
            found += [(paper, folded(paper, pattern, collation)) for collation in compositions(sheets)[::5]]
    return [(paper, sequence, all_collations(paper, sequence)) for paper, sequence in dict.fromkeys(found)]


def copies_cases():
    """One to three copies of up to 16 leaves, with all of their common collations."""
    small = [(paper, sequence) for paper in all_papers(2) for sequence in all_sequences(paper, 4)]
    marks = (1, 0, 2)
    long = [
        (marks, folded(marks, pattern, collation))
        for pattern in PATTERNS[:4] for collation in [(1,) * 6, (2, 2, 2), (3, 3), (1, 2, 2, 1), (6,), (1, 4, 1)]
    ]
    longest = [((0,), (0,) * 16), (marks, (2,) * 16), (marks, (0, 1) * 8), (marks, (0, 1, 2, 2) * 4), ((1, 0), (0,) * 16)]
    pair = (1, 0)
    three = [(pair, (0, 1, 0, 1, 1, 0, 1, 0)), (pair, (0, 1, 1, 0, 1, 0, 0, 1)), (pair, (0, 0, 1, 1, 0, 0, 1, 1))]
    three.append(((0,), (0,) * 8))
    found = [(copy,) for copy in small + long + longest]
    for copies in (small, long, longest, three):
        found += [(first, second) for first in copies for second in copies]
    for copies in (small[::3], long[::3], longest[:4], three):
        found += list(product(copies, repeat=3))
    known = {}
    cases = []
    for copies in dict.fromkeys(found):
        if len({len(sequence) for _, sequence in copies}) == 1:
            for copy in copies:
                if copy not in known:
                    known[copy] = all_collations(*copy)
            common = [row for row in known[copies[0]] if all(row in known[copy] for copy in copies)]
            cases.append((copies, common))
    return cases


def all_valid_pairs(paper, sequence):
    """All valid pairs of the sequence: nests, one pair inside the other, side by side."""
    def grown(begin, end, behind):
        # The next pair lies inside the last one, or behind the last nest.
        found = [()]
        for one in [*range(begin, end), *range(behind, len(sequence))]:
            inside = one < end
            for other in range(one + 1, end if inside else len(sequence)):
                if paper[sequence[one]] == sequence[other]:
                    more = grown(one + 1, other, behind if inside else other + 1)
                    found += [((one, other), *pairs) for pairs in more]
        return found

    return grown(0, 0, 0)


def written(value, depth=8):
    """The value as a string in which True is not 1 and a list no tuple."""
    if type(value) not in (tuple, list):
        return repr(value)
    if depth == 0:
        return "deep"
    return type(value).__name__ + "(" + ", ".join([written(item, depth - 1) for item in value]) + ")"


def variants(value):
    """Values that differ from this one at one place: by one, in kind, left out, put in, exchanged, nested."""
    yield from [None, True, False, -1, 0, 1, "", "a", (), [], (0,), [0], {}, DEEP, DEEP_LIST, Anything()]
    if type(value) is int:
        yield from [value + 1, value - 1, value + 10 ** 30, -value, bool(value), str(value), (value,), [value]]
    if type(value) is str:
        yield from [value.upper(), value + " ", value[:-1], value.encode(), (value,), [value], [*value]]
    if type(value) is tuple:
        yield from [list(value), value + value, (value,), [value], value + ((),), value + (0,), value[::-1]]
        for place in range(len(value)):
            yield value[:place] + value[place + 1:]
            yield value[:place + 1] + value[place:]
            if place > 0:
                yield value[:place - 1] + (value[place], value[place - 1]) + value[place + 1:]
            for item in variants(value[place]):
                yield value[:place] + (item,) + value[place + 1:]


def assert_judge(case, judge, arguments, right, values):
    """Of the values, the judge takes just those that are written like one of the right ones."""
    known = {written(value) for value in right}
    for value in values:
        if judge(*arguments, value) is not (written(value) in known):
            case.fail(f"{judge.__name__} {arguments} of {written(value)}")


def assert_not_possible(case, why, function, arguments):
    """The call raises NotPossible with the word."""
    try:
        function(*arguments)
    except NotPossible as error:
        case.assertEqual(error.why, why)
        return
    case.fail(f"{function.__name__} found it possible")


def assert_too_large(case, what, function, arguments):
    """The call raises TooLarge with the word."""
    try:
        function(*arguments)
    except TooLarge as error:
        case.assertEqual(error.what, what)
        return
    case.fail(f"{function.__name__} found it not too large")


def assert_text_error(case, column, words, function, arguments):
    """The call raises TextError with the column and the words."""
    try:
        function(*arguments)
    except TextError as error:
        case.assertEqual((error.column, error.words), (column, words), arguments)
        return
    case.fail(f"{function.__name__} took {arguments}")


def plain_act(paper, books, command):
    """What point 134 says of a command: (why, value, books), where why is None if the command is possible."""
    word, *rest = command
    if word == "book":
        return ("books", None, books) if len(books) == 6 else (None, len(books), (*books, rest[0]))
    book = rest[0]
    if book not in range(len(books)):
        return "missing", None, books
    leaves = list(books[book])
    if word == "leaf":
        if len(leaves) == 16:
            return "full", None, books
        _, remainder = plain_factors(paper, books[book])
        leaves.append(rest[1])
        complete = (*remainder, rest[1])
        value = complete if folds(paper, complete) else None
    else:
        leaf = rest[1]
        if leaf not in range(len(leaves)):
            return "missing", None, books
        value = leaves[leaf]
        if word == "set":
            leaves[leaf] = rest[2]
        else:
            del leaves[leaf]
    return None, value, tuple(tuple(leaves) if at == book else other for at, other in enumerate(books))


def wrong_commands():
    """Values that are no commands for the paper (1, 0, 2)."""
    found = [
        *OTHER_KINDS, (), "book", "leaf", ("book",), ("leaf", 0), ("set", 0, 0), ("remove", 0), ("undo",), ("Book", ()),
        ("book", (), ()), ("leaf", 0, 0, 0), ("set", 0, 0, 0, 0), ("remove", 0, 0, 0), ("leaf ", 0, 0), ("", 0, 0),
        ["book", ()], ["leaf", 0, 0], ["set", 0, 0, 0], ["remove", 0, 0], (("book",), ()), (0, 0, 0), (DEEP, 0, 0),
        (None, ()), (True, 0, 0), (b"book", ()), (Anything(), ()), (Anything(), 0, 0), (Anything(), 0, 0, 0),
        ("leaf", (0, 0)), ("book", 0), {"book": ()}, ("insert", 0, 0, 0), ("add", 0, 0), ("remove", 0, 0, 1),
    ]
    found += [("book", sequence) for sequence in wrong_sequences((1, 0, 2))]
    for book in wrong_integers(0, 5):
        found += [("leaf", book, 0), ("set", book, 0, 0), ("remove", book, 0)]
    for leaf in wrong_integers(0, 15):
        found += [("set", 0, leaf, 0), ("remove", 0, leaf)]
    for mark in wrong_integers(0, 2):
        found += [("leaf", 0, mark), ("set", 0, 0, mark)]
    return found


def wrong_texts():
    """Values that are no texts."""
    found = [value for value in OTHER_KINDS if type(value) is not str]
    found += [0, 7, b"", b"ab:", ("ab:",), ["ab:"], ["a", "b"], "\n", "a:\n", "\na:", "a\n:", "a: a\n", "1\n", "1\n1"]
    found += ["a" * 301, " " * 301, "1 " * 150 + " ", "a:" + "a" * 299, "?" * 301, "a" * 100000, "1" * 299 + "\n"]
    return found + [" " * at + "\n" + " " * (299 - at) for at in range(0, 300, 23)]


def wrong_papers():
    """Values that are no papers."""
    return [
        *OTHER_KINDS, (), 0, 7, (1,), (1, 1), (0, 0), (1, 2, 0), (0, 2), (0, -1), (True, 0), (1, False), (True, False),
        [0, 1], [1, 0], (0, 1, 2, 3, 4, 5, 6), (0, None), ("a", "b"), ((0,), 1), (0, 1, 2, 3, 4, 6),
    ]


def wrong_sequences(paper):
    """Values that are no sequences of the paper."""
    many = len(paper)
    return [
        *OTHER_KINDS, 0, (many,), (0, many), (0, -1), (0, True), (0, False, 0), [0, 0], [*range(many)], (0,) * 17,
        (0,) * 100, (0, "0"), ((0, 0), 0), {0: 0},
    ]


def wrong_copies():
    """Values that are no copies."""
    good, other = ((1, 0), (0, 1, 0, 1)), ((0, 1, 2), (2, 2, 0, 0))
    found = [
        *OTHER_KINDS, (), good, (good, other, good, other), [good], (list(good),), (good, list(other)), (good[:1],),
        (good + good,), ((), good), (good, ()), (good, None), (None, good), (good, DEEP), (DEEP, good), ((DEEP, DEEP),),
        (good, ((1, 0), (0, 1))), (((1, 0), (0, 1)), good), (good, other, ((0,), ())), (((0,), ()), good),
        (good, other, ((0,), (0,) * 6)), (((0,), (0,) * 17),), (good[::-1],), {0: good}, ("ab", "cd"), (good, 1),
    ]
    for paper in wrong_papers():
        found += [((paper, good[1]),), (good, (paper, other[1])), (good, other, (paper, good[1]))]
    for sequence in wrong_sequences((1, 0)):
        found += [((good[0], sequence),), (good, (good[0], sequence)), (other, good, (good[0], sequence))]
    return found


def wrong_integers(low, high):
    """Values that are no integers from low to high."""
    return [
        None, True, False, "", "0", "1", [], [0], (), (0,), DEEP, DEEP_LIST, Anything(), low - 1, high + 1, low - 100, high + 100,
        -10 ** 30, 10 ** 30,
    ]


def assert_bad(case, name, function, arguments):
    """The call raises BadValue with the name."""
    try:
        function(*arguments)
    except BadValue as error:
        case.assertEqual(error.name, name)
        return
    case.fail(f"{function.__name__} took a wrong {name}")


def assert_checks(case, function, good, wrong):
    """Each wrong value is refused by its name: alone, and with a wrong value in every later place, too.

    wrong has, for each argument, the pair of its name and of a list of wrong values
    (an empty one for what is judged, where every value is valid).
    """
    function(*good)
    for place, (name, values) in enumerate(wrong):
        later = [row[0] if row else good[place + 1 + at] for at, (_, row) in enumerate(wrong[place + 1:])]
        for value in values:
            assert_bad(case, name, function, [*good[:place], value, *good[place + 1:]])
            assert_bad(case, name, function, [*good[:place], value, *later])

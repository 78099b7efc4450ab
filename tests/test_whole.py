"""The whole program: all examples of the document, and what it promises of every call."""

import copy
import importlib
import unittest

from helper import DEEP, OTHER_KINDS, written
from test_interface import INTERFACE

from quiremarks.collection import Collection
from quiremarks.errors import BadValue, QuireError, TextError
from quiremarks.journals import replayed

# The examples of the interface, as they stand in the document.
EXAMPLES = """
>>> from quiremarks.alike import accepts_renaming, count_alike, count_renamings, first_alike, nth_renaming, renaming
>>> from quiremarks.papers import mark_pairs, own_marks, reflected
>>> paper = (1, 0, 2)
>>> reflected(paper, (0, 0, 2)), own_marks(paper), mark_pairs(paper)
((2, 1, 1), (2,), ((0, 1),))
>>> count_renamings(paper), nth_renaming(paper, 1), count_renamings((1, 0, 3, 2)), nth_renaming((1, 0, 3, 2), 2), count_renamings((0, 1, 2))
(2, (1, 0, 2), 8, (1, 0, 2, 3), 6)
>>> first_alike(paper, (1, 2, 1)), count_alike(paper, (2, 2)), renaming(paper, (0, 0, 2), (1, 1, 2)), renaming(paper, (0, 2), (2, 0)) is None
((0, 2, 0), 1, (1, 0, 2), True)
>>> accepts_renaming(paper, (0,), (1,), (1, 0, 2)), accepts_renaming(paper, (0,), (2,), (2, 1, 0))
(True, False)

>>> from quiremarks.centers import gatherings_within, largest_within, radii, radius
>>> from quiremarks.gatherings import accepts_mismatch, closed, doubled, is_gathering, mismatch, sheets
>>> paper, hair = (0, 1), (1, 0)
>>> is_gathering(paper, (0, 1, 1, 0)), is_gathering(hair, (0, 1, 0, 1)), sheets(hair, (0, 1, 0, 1)), mismatch(hair, (0, 0, 1, 0))
(True, True, ((0, 3), (1, 2)), (0, 3))
>>> mismatch(paper, (0, 1, 0)), mismatch(paper, ()), accepts_mismatch(paper, (0, 1, 0, 1), (1, 2)), accepts_mismatch(paper, (0, 1, 0, 1), (0, 1))
((1,), (), True, False)
>>> closed(paper, (0, 1, 1)), closed(hair, (0,)), doubled(hair, (0, 0, 1)), closed(hair, (0, 0, 1))
((0, 1, 1, 0), (0, 1), (0, 0, 1, 0, 1, 1), (0, 0, 1, 1))
>>> radii(paper, (0, 0, 1, 1)), radius(hair, (0, 1, 0, 1), 2), gatherings_within(paper, (0, 0, 1, 1)), largest_within(hair, (0, 1, 0, 1))
((0, 1, 0, 1, 0), 2, [(0, 1), (2, 1)], (0, 2))

>>> from quiremarks.factors import appended, closing_mark, completion, ends, prepended, split
>>> from quiremarks.rests import accepts_sequence, sequence_evidence
>>> paper = (1, 0, 2)
>>> split(paper, (0, 1, 2, 0, 2, 1)), ends(paper, (0, 1, 2, 0, 2, 1)), split(paper, (0, 0, 1, 1, 0, 1))
((((0, 1),), (2, 0, 2, 1)), (2,), (((0, 0, 1, 1), (0, 1)), ()))
>>> closing_mark(paper, (0, 0, 1)), closing_mark(paper, (0, 0, 2)), appended(paper, (0, 0, 1)), prepended(paper, (0, 0, 1)), appended(paper, (0, 0, 2))
(1, None, (1,), (1,), (2, 1, 1))
>>> completion((1, 0, 2, 3), (0, 2, 2, 3, 3)), completion(paper, (2, 0)), appended(paper, (1, 2, 2))
((1, (1,), ()), (0, (), (1, 2)), (0,))
>>> sequence_evidence(paper, (0, 1, 1, 0)), sequence_evidence(paper, (0, 1, 2, 0, 2, 1)), accepts_sequence(paper, (0, 1, 0, 1), ("collation", (2,)))
(('collation', (1, 1)), ('rest', (1,), ((2, 3), (2, 5))), True)
>>> accepts_sequence(paper, (0,), ("rest", (), ())), accepts_sequence(paper, (0, 1), ("rest", (), ((0, 1),)))
(True, False)

>>> from quiremarks.collations import count_collations, count_with, fewest, index_of_collation, is_collation, largest, next_collation, nth_collation
>>> paper, twos = (1, 0, 2), (2, 2, 2, 2, 2, 2)
>>> count_collations(paper, twos), [nth_collation(paper, twos, index) for index in range(4)], index_of_collation(paper, twos, (2, 1))
(4, [(1, 1, 1), (1, 2), (2, 1), (3,)], 2)
>>> next_collation(paper, twos, (1, 2)), next_collation(paper, twos, (3,)) is None, count_with(paper, twos, 2), largest(paper, twos), fewest(paper, twos)
((2, 1), True, 2, 3, (3,))
>>> eight = (0, 1, 2, 2, 0, 1, 2, 2)
>>> count_collations(paper, eight), fewest(paper, eight), largest(paper, eight), is_collation(paper, eight, (3, 1)), is_collation(paper, eight, (2, 2))
(3, (1, 3), 3, True, False)
>>> count_collations(paper, ()), fewest(paper, ()), largest(paper, ()) is None, count_collations(paper, (0,)), index_of_collation(paper, (0, 1, 1, 0), (2,)) is None
(1, (), True, 0, True)

>>> from quiremarks.certainty import is_only, possible_centers, possibly_conjugate, reason, share, sure_boundaries, sure_pairs
>>> from quiremarks.grounds import accepts_only, only_evidence
>>> paper = (1, 0, 2)
>>> is_only(paper, (0, 1, 0, 1)), reason(paper, (0, 1, 0, 1)), sure_boundaries(paper, (0, 1, 0, 1)), possible_centers(paper, (0, 1, 0, 1))
(False, (0, 1), (), (1, 2, 3))
>>> share(paper, (0, 1, 0, 1), 2), possibly_conjugate(paper, (0, 1, 0, 1), 0), sure_pairs(paper, (0, 1, 0, 1))
((1, 1), (1, 3), ())
>>> is_only(paper, (0, 1, 1, 0)), sure_boundaries(paper, (0, 1, 1, 0)), sure_pairs(paper, (0, 1, 1, 0)), only_evidence(paper, (0, 1, 1, 0))
(True, (2,), ((0, 1), (2, 3)), ('one', (0,)))
>>> only_evidence(paper, (0, 1, 1, 0, 0, 1)), reason(paper, (0, 1, 1, 0, 0, 1))
(('two', (1, 1, 1), (3,)), (0, 2))
>>> accepts_only(paper, (0, 1, 1, 0), ("one", (1,))), accepts_only(paper, (0, 1, 0, 1), ("one", (0,))), accepts_only(paper, (0, 1, 0, 1), ("two", (2,), (1, 1)))
(True, False, True)

>>> from quiremarks.copies import conflict, count_common, excluded, finest_common, sufficient
>>> from quiremarks.together import accepts_common, common_evidence
>>> paper = (1, 0)
>>> two = ((paper, (0, 1, 0, 1)), (paper, (0, 1, 1, 0)))
>>> finest_common(two), count_common(two), sufficient(two), conflict(two, (2,)), conflict(two, (1, 1)) is None, excluded(two, 0)
((1, 1), 1, (1,), (1, 0, 3), True, ())
>>> three = ((paper, (0, 1, 0, 1, 1, 0, 1, 0)), (paper, (0, 1, 1, 0, 1, 0, 0, 1)), (paper, (0, 0, 1, 1, 0, 0, 1, 1)))
>>> finest_common(three) is None, count_common(three), sufficient(three), conflict(three, (1, 1, 1, 1)), finest_common(three[::2])
(True, 0, (0, 1, 2), (2, 0, 1), (2, 2))
>>> excluded(three[::2], 0), common_evidence(three), accepts_common(three, ("common", (2, 2)))
((2, 6), ('none', (), ((2, 0), (1, 0), (0, 0), (0, 0))), False)
>>> common_evidence((((0,), (0,)),)), accepts_common(two, ("common", (1, 1))), accepts_common(two, ("none", (1,), ((0, 2),)))
(('none', (), ()), True, False)

>>> from quiremarks.missing import accepts_pairs, always_paired, fewest_missing, never_paired, paired_with, restored, told_pairs
>>> from quiremarks.nests import accepts_missing, missing_evidence
>>> paper = (1, 0, 2)
>>> fewest_missing(paper, (0, 1, 1)), told_pairs(paper, (0, 1, 1)), paired_with(paper, (0, 1, 1), 0), always_paired(paper, (0, 1, 1)), never_paired(paper, (0, 2, 1))
(1, ((0, 1),), (1, 2), (0,), (1,))
>>> restored(paper, (0, 1, 1), ((0, 1),)), restored(paper, (0, 1, 1), ((0, 2),)), restored(paper, (0, 2, 0, 1, 0, 1), ((0, 5), (2, 3)))
(((0, 1, 1, 0), (1, 1)), ((0, 1, 0, 1), (2,)), ((0, 2, 1, 0, 1, 0, 2, 1), (4,)))
>>> accepts_pairs(paper, (0, 0, 1, 0, 1, 1), ((0, 5), (1, 2), (3, 4))), accepts_pairs(paper, (0, 0, 1, 0, 1, 1), ((0, 5), (3, 4))), told_pairs(paper, (2, 0, 2, 1))
(False, True, ((0, 2),))
>>> missing_evidence(paper, (0, 1)), accepts_missing(paper, (0, 1, 1), 1, missing_evidence(paper, (0, 1, 1))), accepts_missing(paper, (0,), 1, ((), (((0, 0), (0,)), (0, 0))))
((((0, 1),), (((0, 0, 1), (0, 0), (0,)), (1, 0, 0))), True, True)

>>> from quiremarks.bounds import accepts_misread, misread_evidence
>>> from quiremarks.misread import doubtful, fewest_misread, nearest, possible_marks, told_way, ways
>>> paper = (1, 0, 2)
>>> fewest_misread(paper, (0, 0)), nearest(paper, (0, 0)), doubtful(paper, (0, 0)), fewest_misread(paper, (0, 1, 0, 1))
(1, [(0, 1), (1, 0)], (0, 1), 0)
>>> told_way(paper, (0, 0, 1, 0)), ways(paper, (0, 0, 1, 0)), nearest(paper, (0, 0, 1, 0))
((1, 1), [(1, 1), (2,)], [(0, 0, 1, 1), (0, 1, 1, 0), (1, 0, 1, 0)])
>>> doubtful(paper, (0, 0, 1, 0)), possible_marks(paper, (0, 0, 1, 0), 0), possible_marks(paper, (0, 0, 1, 0), 2)
((0, 1, 3), (0, 1), (1,))
>>> misread_evidence(paper, (0, 0, 1, 0)), accepts_misread(paper, (0, 0, 1, 0), 1, ((2,), (0, 1, 1))), accepts_misread(paper, (0, 0, 1, 0), 1, ((2,), (0, 0, 1)))
(((1, 1), (0, 1, 1)), True, False)
>>> accepts_misread(paper, (0, 0, 1, 0), 0, ((2,), (0, 0, 0))), accepts_misread(paper, (0, 0), 1, ((1,), (0, 2))), nearest(paper, ())
(False, False, [()])

>>> from quiremarks.threads import accepts_open, count_agreeing, fails_at, implied, looks_of, nearest_collation, next_opening
>>> paper, six = (0,), (0, 0, 0, 0, 0, 0)
>>> seen, none = ("t", "?", "?", "?", "?"), ("n",) * 5
>>> count_agreeing(paper, six, seen), implied(paper, six, seen), next_opening(paper, six, seen), fails_at(paper, six, seen) is None
(2, ('t', 'n', '?', '?', '?'), 3, True)
>>> count_agreeing(paper, six, ("t",) * 5), nearest_collation(paper, six, ("t",) * 5), fails_at(paper, six, ("t",) * 5)
(0, ((1, 1, 1), 2), 2)
>>> nearest_collation(paper, six, none), fails_at(paper, six, none), implied(paper, six, none) is None, looks_of(paper, six, (1, 2))
(((3,), 1), 3, True, ('t', 'n', 'n', 't', 'n'))
>>> implied((1, 0), (0, 1, 1, 0, 0, 1), ("?",) * 5), fails_at((1, 0), (0, 0), ("?",)), nearest_collation((1, 0), (0, 0), ("?",)) is None
(('?', 'n', 't', 'n', '?'), 0, True)
>>> accepts_open(paper, six, seen, 3, ((1, 1, 1), (1, 2))), accepts_open(paper, six, seen, 3, ((1, 2), (1, 1, 1))), accepts_open(paper, six, seen, 1, ((1, 2), (3,)))
(True, False, False)

>>> from quiremarks.counting import count_collatable, count_collations, count_gatherings, count_only, count_primes, count_with_factors
>>> [count_primes(2, sheets) for sheets in range(1, 5)], count_gatherings(2, 4), count_collatable(2, 3), [count_with_factors(2, 3, factors) for factors in range(5)]
([2, 2, 4, 6], 16, 20, [0, 4, 8, 8, 0])
>>> count_collations(2, 3), count_only(2, 3), count_collations(1, 30), [count_only(1, sheets) for sheets in range(4)], count_with_factors(5, 0, 0)
(32, 12, 536870912, [1, 1, 0, 0], 1)

>>> from quiremarks.reading import next_tokens, read_book, read_collation
>>> from quiremarks.writing import book_text, collation_text
>>> read_book("ab c: abba"), read_book("a:"), read_collation("2 1 01"), read_collation("")
(((1, 0, 2), (0, 1, 1, 0)), ((0,), ()), (2, 1, 1), ())
>>> book_text((1, 0, 3, 2), (0, 3)), book_text((0, 2, 1), ()), collation_text((3, 1))
('ab cd: ad', 'a bc:', '3 1')
>>> next_tokens("", "book"), next_tokens("ab", "book"), next_tokens("ab:", "book"), next_tokens("2", "collation")
(['a word'], ['a word', '":"'], ['a word', 'the end'], ['a number', 'the end'])

>>> from quiremarks.reading import read_book
>>> read_book("ab c: abda")
raises TextError

>>> from quiremarks.collection import Collection
>>> from quiremarks.journals import are_right, replayed
>>> collection = Collection((1, 0, 2))
>>> collection.act(("book", ())), collection.act(("leaf", 0, 0)), collection.act(("leaf", 0, 1)), collection.act(("leaf", 0, 0)), collection.factors(0), collection.partners(0, 2)
(0, None, (0, 1), None, (((0, 1),), (0,)), ())
>>> collection.act(("leaf", 0, 1)), collection.partners(0, 1), collection.act(("set", 0, 3, 2)), collection.factors(0), collection.undo(), collection.books()
((0, 1), (0, 2), 1, (((0, 1),), (0, 2)), ('set', 0, 3, 2), ((0, 1, 0, 1),))
>>> collection.act(("book", (0, 1, 1, 0))), collection.act(("remove", 1, 0)), collection.factors(1)
(1, 0, ((), (1, 1, 0)))
>>> are_right((0,), ((("book", (0,)), 0), (("leaf", 0, 0), (0, 0)))), replayed((0,), (("book", (0, 0)), ("remove", 0, 1))).books()
(True, ((0,),))
"""

# The examples of the points, each name with its module: two modules have a count_collations.
POINTS = """
alike.count_renamings((1, 0, 2)), papers.reflected((1, 0, 2), (0, 0, 2)) == (2, (2, 1, 1))
alike.renaming((1, 0, 2), (0, 0, 2), (1, 1, 2)) == (1, 0, 2)
gatherings.closed((0, 1), (0, 1, 1)), centers.radii((0, 1), (0, 0, 1, 1)) == ((0, 1, 1, 0), (0, 1, 0, 1, 0))
centers.gatherings_within((0, 1), (0, 0, 1, 1)) == [(0, 1), (2, 1)]
factors.split((1, 0, 2), (0, 1, 2, 0, 2, 1)), factors.closing_mark((1, 0, 2), (0, 0, 2)) == ((((0, 1),), (2, 0, 2, 1)), None)
factors.appended((1, 0, 2), (0, 0, 2)), factors.appended((1, 0, 2), (1, 2, 2)) == ((2, 1, 1), (0,))
[collations.nth_collation((1, 0, 2), (0, 1, 0, 1), index) for index in range(collations.count_collations((1, 0, 2), (0, 1, 0, 1)))] == [(1, 1), (2,)]
[collations.nth_collation((1, 0, 2), (0, 1, 1, 0), index) for index in range(collations.count_collations((1, 0, 2), (0, 1, 1, 0)))] == [(1, 1)]
[collations.nth_collation((1, 0, 2), (2,) * 6, index) for index in range(collations.count_collations((1, 0, 2), (2,) * 6))] == [(1, 1, 1), (1, 2), (2, 1), (3,)]
[collations.nth_collation((1, 0, 2), (0, 1, 2, 2) * 2, index) for index in range(collations.count_collations((1, 0, 2), (0, 1, 2, 2) * 2))] == [(1, 1, 1, 1), (1, 3), (3, 1)]
collations.fewest((1, 0, 2), (0, 1, 2, 2) * 2) == (1, 3)
factors.split((1, 0, 2), (0, 1, 0, 1)), certainty.reason((1, 0, 2), (0, 1, 0, 1)) == ((((0, 1), (0, 1)), ()), (0, 1))
factors.split((1, 0, 2), (0, 1, 1, 0)), certainty.is_only((1, 0, 2), (0, 1, 1, 0)) == ((((0, 1), (1, 0)), ()), True)
certainty.sure_boundaries((1, 0, 2), (0, 1, 1, 0)) == (2,)
copies.count_common((((1, 0), (0, 1, 0, 1)), ((1, 0), (0, 1, 1, 0)))), copies.sufficient((((1, 0), (0, 1, 0, 1)), ((1, 0), (0, 1, 1, 0)))) == (1, (1,))
missing.fewest_missing((1, 0), (0, 1, 1)), missing.paired_with((1, 0), (0, 1, 1), 0) == (1, (1, 2))
missing.restored((1, 0), (0, 1, 1), ((0, 1),)), missing.restored((1, 0), (0, 1, 1), ((0, 2),)) == (((0, 1, 1, 0), (1, 1)), ((0, 1, 0, 1), (2,)))
misread.fewest_misread((1, 0, 2), (0, 0)), misread.nearest((1, 0, 2), (0, 0)), misread.fewest_misread((1, 0, 2), (0, 0, 1, 0)) == (1, [(0, 1), (1, 0)], 1)
misread.doubtful((1, 0, 2), (0, 0, 1, 0)) == (0, 1, 3)
collations.count_collations((0,), (0,) * 6), threads.count_agreeing((0,), (0,) * 6, ("t", "?", "?", "?", "?")) == (4, 2)
threads.implied((0,), (0,) * 6, ("t", "?", "?", "?", "?"))[1], threads.next_opening((0,), (0,) * 6, ("t", "?", "?", "?", "?")) == ('n', 3)
[counting.count_primes(2, sheets) for sheets in (1, 2, 3, 4)], counting.count_collatable(2, 3) == ([2, 2, 4, 6], 20)
[counting.count_with_factors(2, 3, many) for many in (1, 2, 3)], counting.count_collations(2, 3), counting.count_only(2, 3) == ([4, 8, 8], 32, 12)
reading.read_book("ab c: abba") == ((1, 0, 2), (0, 1, 1, 0))
writing.book_text((1, 0, 2), (0, 1, 1, 0)) == 'ab c: abba'
[line[1] for line in journals.replayed((1, 0), (("book", ()), ("leaf", 0, 0), ("leaf", 0, 1))).records()] == [0, None, (0, 1)]
journals.replayed((1, 0), (("book", (0, 1)), ("leaf", 0, 0), ("leaf", 0, 1))).partners(0, 1) == (0, 2)
"""

BOOK = ((1, 0, 2), (0, 1, 2, 2, 0, 1, 2, 2))
TWO = (((1, 0), (0, 1, 0, 1)), ((1, 0), (0, 1, 1, 0)))
LOOKS = ("t", "?", "?", "?", "?", "n", "?")
TABLES = (((0, 0, 1), (0, 0), (0,)), (1, 0, 0))
JOURNAL = (("book", (0, 1)), ("leaf", 0, 2), ("leaf", 0, 2), ("set", 0, 1, 0), ("remove", 0, 3))
RECORDS = (("book", (0, 1)), 0), (("leaf", 0, 2), None), (("leaf", 0, 2), (2, 2)), (("set", 0, 1, 0), 1), (("remove", 0, 3), 2)
# For each function of the interface some calls that raise no error; where something is judged, right and wrong values.
CALLS = {
    "papers": {
        "is_paper": [((1, 0, 2),), ((1, 2, 0),), ([0, 1],)], "is_sequence": [BOOK, (BOOK[0], [0, 1])], "reflected": [BOOK],
        "own_marks": [BOOK[:1]], "mark_pairs": [BOOK[:1], ((1, 0, 3, 2),)],
    },
    "alike": {
        "count_renamings": [BOOK[:1]], "nth_renaming": [(BOOK[0], 1)], "first_alike": [BOOK], "count_alike": [BOOK],
        "renaming": [(BOOK[0], (0, 0, 2), (1, 1, 2)), (BOOK[0], (0, 2), (2, 0))],
        "accepts_renaming": [(BOOK[0], (0,), (1,), (1, 0, 2)), (BOOK[0], (0,), (1,), [1, 0, 2])],
    },
    "gatherings": {
        "is_gathering": [BOOK], "mismatch": [BOOK, (BOOK[0], (0, 0))], "accepts_mismatch": [(*BOOK, (0, 7)), (*BOOK, [0, 7])],
        "sheets": [(BOOK[0], (0, 2, 2, 1))], "doubled": [BOOK], "closed": [BOOK],
    },
    "centers": {"radius": [(*BOOK, 4)], "radii": [BOOK], "gatherings_within": [BOOK], "largest_within": [BOOK]},
    "factors": {
        name: [BOOK, (BOOK[0], (0, 1, 2, 0))]
        for name in ("split", "ends", "closing_mark", "appended", "prepended", "completion")
    },
    "collations": {
        "is_collation": [(*BOOK, (3, 1)), (*BOOK, [3, 1])], "count_collations": [BOOK], "count_with": [(*BOOK, 2)],
        "nth_collation": [(*BOOK, 2)], "index_of_collation": [(*BOOK, (3, 1)), (*BOOK, [3, 1])],
        "next_collation": [(*BOOK, (1, 3)), (*BOOK, (3, 1))], "fewest": [BOOK], "largest": [BOOK],
    },
    "rests": {
        "sequence_evidence": [BOOK, (BOOK[0], (0, 0))],
        "accepts_sequence": [(*BOOK, ("collation", (3, 1))), (*BOOK, ["collation", [3, 1]])],
    },
    "certainty": {
        "is_only": [BOOK], "reason": [BOOK, (BOOK[0], (2, 2))], "share": [(*BOOK, 2)], "sure_boundaries": [BOOK],
        "possible_centers": [BOOK], "possibly_conjugate": [(*BOOK, 1)], "sure_pairs": [BOOK, (BOOK[0], (0, 1, 2, 2))],
    },
    "grounds": {
        "only_evidence": [BOOK, (BOOK[0], (0, 1, 2, 2))],
        "accepts_only": [(*BOOK, ("two", (1, 3), (3, 1))), (*BOOK, ("two", [1, 3], (3, 1)))],
    },
    "copies": {
        "finest_common": [(TWO,)], "count_common": [(TWO,)], "sufficient": [(TWO,)], "conflict": [(TWO, (2,)), (TWO, (1, 1))],
        "excluded": [(TWO, 1)],
    },
    "together": {
        "common_evidence": [(TWO,)], "accepts_common": [(TWO, ("common", (1, 1))), (TWO, ("common", [1, 1]))],
    },
    "missing": {
        "fewest_missing": [BOOK], "told_pairs": [BOOK], "accepts_pairs": [(*BOOK, ((0, 1),)), (*BOOK, [[0, 1]])],
        "restored": [(*BOOK, ((0, 1),))], "paired_with": [(*BOOK, 3)], "always_paired": [BOOK], "never_paired": [BOOK],
    },
    "nests": {
        "missing_evidence": [BOOK],
        "accepts_missing": [((1, 0), (0, 1), 0, (((0, 1),), TABLES)), ((1, 0), (0, 1), 0, [[(0, 1)], [list(TABLES)]])],
    },
    "misread": {
        "fewest_misread": [BOOK], "told_way": [BOOK], "ways": [BOOK, (BOOK[0], (0, 0, 1, 0))],
        "nearest": [BOOK, (BOOK[0], (0, 0, 1, 0))], "doubtful": [(BOOK[0], (0, 0, 1, 0))], "possible_marks": [(*BOOK, 7)],
    },
    "bounds": {
        "misread_evidence": [BOOK, (BOOK[0], (0, 0, 1, 0))],
        "accepts_misread": [(BOOK[0], (0, 0), 1, ((1,), (0, 1))), (BOOK[0], (0, 0), 1, [[1], [0, 1]])],
    },
    "threads": {
        **{
            name: [(*BOOK, LOOKS), (*BOOK, ("?",) * 7)]
            for name in ("count_agreeing", "nearest_collation", "implied", "fails_at", "next_opening")
        },
        "looks_of": [(*BOOK, (1, 3))],
        "accepts_open": [(*BOOK, ("?",) * 7, 1, ((1, 3), (3, 1))), (*BOOK, ("?",) * 7, 1, [[1, 3], [3, 1]])],
    },
    "counting": {
        **{
            name: [(3, 7), (1, 1), (26, 30)]
            for name in ("count_gatherings", "count_primes", "count_collatable", "count_collations", "count_only")
        },
        "count_with_factors": [(3, 7, 2), (26, 30, 30)],
    },
    "scanning": {"scan": [("ab c: abba",), ("",), ("2 1",)]},
    "reading": {
        "next_tokens": [("ab", "book"), ("2 1", "collation")], "read_book": [("ab c: abba",)], "read_collation": [("2 1 01",)],
    },
    "writing": {"book_text": [BOOK], "collation_text": [((3, 1),)]},
    "journals": {"are_right": [(BOOK[0], RECORDS), (BOOK[0], [list(record) for record in RECORDS])]},
}


MODULES = {module: importlib.import_module("quiremarks." + module) for module in INTERFACE}


def called(function, arguments):
    """What the call returns or raises, in a form in which True is not 1 and a list no tuple."""
    try:
        return written(function(*arguments), 20)
    except QuireError as error:
        return type(error).__name__ + written(tuple(sorted(vars(error).items())))


def all_calls():
    for module, functions in CALLS.items():
        for name, rows in functions.items():
            for arguments in rows:
                yield module, name, getattr(MODULES[module], name), arguments


class ExamplesTest(unittest.TestCase):
    def test_each_example_of_the_interface(self):
        done = 0
        for block in EXAMPLES.strip().split("\n\n"):
            names, lines = {}, block.split("\n")
            for number, line in enumerate(lines):
                told = lines[number + 1] if number + 1 < len(lines) else ">>> "
                if not line.startswith(">>> "):
                    continue
                if told.startswith(">>> "):
                    exec(line[4:], names)
                elif told.startswith("raises "):
                    with self.assertRaises(TextError):
                        eval(line[4:], names)
                    done += 1
                else:
                    self.assertEqual(repr(eval(line[4:], names)), told, line)
                    done += 1
        results = [line for line in EXAMPLES.split("\n") if line and not line.startswith(">>> ")]
        self.assertEqual(done, len(results))

    def test_each_example_of_the_points(self):
        for line in POINTS.strip().split("\n"):
            call, told = line.split(" == ")
            self.assertEqual(repr(eval(call, dict(MODULES))), told, call)


class CallsTest(unittest.TestCase):
    def test_each_function_of_the_interface_is_called(self):
        for module, functions in INTERFACE.items():
            self.assertEqual(set(functions) - set(CALLS[module]), {"replayed"} if module == "journals" else set())

    def test_equal_calls_return_equal_results(self):
        for _, name, function, arguments in all_calls():
            first = called(function, arguments)
            self.assertEqual(called(function, copy.deepcopy(arguments)), first, name)
            self.assertEqual(called(function, eval(repr(arguments))), first, name)
            self.assertNotIn("Error", first, name)

    def test_parameters_have_the_names_of_the_interface(self):
        for module, name, function, arguments in all_calls():
            named = dict(zip(INTERFACE[module][name], arguments, strict=True))
            self.assertEqual(written(function(**named), 20), called(function, arguments), name)

    def test_no_argument_is_changed(self):
        for _, name, function, arguments in all_calls():
            before = written(arguments, 20)
            function(*arguments)
            self.assertEqual(written(arguments, 20), before, name)

    def test_returned_lists_are_new(self):
        lists = set()
        for _, name, function, arguments in all_calls():
            told = function(*arguments)
            kept = written(told, 20)
            if type(told) is list:
                lists.add(name)
                told.append(None)
                told[0] = None
                told.reverse()
            self.assertEqual(written(function(*arguments), 20), kept, name)
            # No list lies deeper, where it could be shared.
            self.assertNotIn("list(", kept[5:], name)
        self.assertEqual(lists, {"gatherings_within", "ways", "nearest", "scan", "next_tokens"})

    def test_wrong_values_in_every_place(self):
        judged = {"value", "records"}
        for module, name, function, arguments in all_calls():
            for place, parameter in enumerate(INTERFACE[module][name]):
                if parameter in judged or name in ("is_paper", "is_sequence"):
                    continue
                for value in OTHER_KINDS:
                    # Some of these are right at some places.
                    if type(value) in (int, str) or value == () and type(value) is tuple:
                        continue
                    with self.assertRaises(BadValue) as caught:
                        function(*arguments[:place], value, *arguments[place + 1:])
                    self.assertEqual(caught.exception.name, parameter, (name, written(value)))

    def test_judges_take_values_of_any_kind(self):
        names = []
        for module, name, function, arguments in all_calls():
            if INTERFACE[module][name][-1] in ("value", "records"):
                names.append(name)
                for value in [*OTHER_KINDS, (DEEP, DEEP), [DEEP], ("collation", DEEP), ("two", DEEP, DEEP), float("nan"), object()]:
                    told = function(*arguments[:-1], value)
                    self.assertIn(told, (None, True, False))
                    if told is True:
                        self.assertIs(type(value), tuple)
        self.assertEqual(len(set(names)), 14)

    def test_replayed_like_the_others(self):
        collection = replayed(BOOK[0], JOURNAL)
        self.assertIs(type(collection), Collection)
        self.assertEqual((collection.journal(), collection.records()), (JOURNAL, RECORDS))
        self.assertEqual(replayed(paper=BOOK[0], journal=JOURNAL).records(), RECORDS)
        for name in ("books", "journal", "records"):
            self.assertEqual(getattr(collection, name)(), getattr(replayed(BOOK[0], JOURNAL), name)())

    def test_methods_by_the_names_of_their_parameters(self):
        collection = Collection(paper=(1, 0, 2))
        self.assertEqual(collection.act(command=("book", (0, 1, 0, 1))), 0)
        self.assertEqual(collection.factors(book=0), (((0, 1), (0, 1)), ()))
        self.assertEqual(collection.partners(book=0, leaf=1), (0, 2))
        self.assertEqual(collection.twin().undo(), ("book", (0, 1, 0, 1)))


if __name__ == "__main__":
    unittest.main()

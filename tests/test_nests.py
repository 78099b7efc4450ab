import unittest
from itertools import product

from helper import (
    DEEP, DEEP_LIST, OTHER_KINDS, all_papers, all_sequences, all_valid_pairs, assert_bad, assert_checks, variants,
    wrong_integers, wrong_papers, wrong_sequences, written,
)
from quiremarks.missing import fewest_missing, told_pairs
from quiremarks.nests import accepts_missing, missing_evidence

PAPER = (1, 0, 2)
SMALL = [(paper, sequence) for paper in all_papers(2) for sequence in all_sequences(paper, 6)]
SMALL += [(PAPER, sequence) for sequence in all_sequences(PAPER, 7)[::13]]
LONG = [
    (PAPER, (0, 1, 2) * 4), (PAPER, (2,) * 12), ((1, 0), (0,) * 12), ((0, 1), (0, 1, 1) * 4), ((0,), (0,) * 11),
    (PAPER, (0, 0, 1, 2, 2, 1, 0, 0, 2, 1, 1, 2)),
]


def are_right(paper, sequence, tables):
    """Whether tables of the right form are right, in the words of point 82."""
    nests, ends = tables
    many = len(sequence)
    found = {(i, i + place): worth for i, row in enumerate(nests) for place, worth in enumerate(row)}
    for (i, j), worth in found.items():
        if worth < 0 or i < j and worth < max(found[i + 1, j], found[i, j - 1]):
            return False
        if i + 1 < j and paper[sequence[i]] == sequence[j - 1] and worth < found[i + 1, j - 1] + 1:
            return False
        if i < j and ends[i] < worth + ends[j]:
            return False
    return ends[many] >= 0


def has_form(many, tables):
    """Whether the tables are tuples of as many integers as point 82 tells."""
    if type(tables) is not tuple or len(tables) != 2 or type(tables[0]) is not tuple or len(tables[0]) != many + 1:
        return False
    lengths = [*range(many + 1, 0, -1), many + 1]
    return all(
        type(row) is tuple and len(row) == length and all(type(item) is int for item in row)
        for row, length in zip([*tables[0], tables[1]], lengths)
    )


def least_tables(paper, sequence):
    """The right tables with the least integers: from zeros on, each is raised until all are right."""
    many = len(sequence)
    nests = [[0] * (many + 1 - i) for i in range(many + 1)]
    ends = [0] * (many + 1)
    while not are_right(paper, sequence, (nests, ends)):
        for i in range(many + 1):
            for j in range(i + 1, many + 1):
                bounds = [nests[i][j - i], nests[i + 1][j - i - 1], nests[i][j - i - 1]]
                if i + 1 < j and paper[sequence[i]] == sequence[j - 1]:
                    bounds.append(nests[i + 1][j - i - 2] + 1)
                nests[i][j - i] = max(bounds)
                ends[i] = max(ends[i], nests[i][j - i] + ends[j])
    return tuple(tuple(row) for row in nests), tuple(ends)


def changed(tables, by):
    """The tables with one integer more or less, for each of the integers."""
    nests, ends = tables
    for i, row in enumerate(nests):
        for place in range(len(row)):
            new = row[:place] + (row[place] + by,) + row[place + 1:]
            yield nests[:i] + (new,) + nests[i + 1:], ends
    for place in range(len(ends)):
        yield nests, ends[:place] + (ends[place] + by,) + ends[place + 1:]


class NestsTest(unittest.TestCase):
    def test_examples(self):
        self.assertEqual(missing_evidence(PAPER, (0, 1)), (((0, 1),), (((0, 0, 1), (0, 0), (0,)), (1, 0, 0))))
        self.assertIs(accepts_missing(PAPER, (0, 1, 1), 1, missing_evidence(PAPER, (0, 1, 1))), True)
        self.assertIs(accepts_missing(PAPER, (0,), 1, ((), (((0, 0), (0,)), (0, 0)))), True)

    def test_the_evidence_has_the_told_pairs_and_the_least_tables(self):
        for paper, sequence in SMALL + LONG:
            pairs, tables = missing_evidence(paper, sequence)
            self.assertEqual(pairs, told_pairs(paper, sequence))
            self.assertEqual(tables, least_tables(paper, sequence))
            self.assertTrue(has_form(len(sequence), tables))
            self.assertIs(accepts_missing(paper, sequence, fewest_missing(paper, sequence), (pairs, tables)), True)
        self.assertEqual(missing_evidence(PAPER, ()), ((), (((0,),), (0,))))

    def test_each_number(self):
        for paper, sequence in SMALL[::3] + LONG:
            evidence = missing_evidence(paper, sequence)
            fewest = fewest_missing(paper, sequence)
            found = [many for many in range(13) if accepts_missing(paper, sequence, many, evidence)]
            self.assertEqual(found, [fewest])

    def test_other_valid_pairs(self):
        for paper, sequence in SMALL[::3]:
            _, tables = missing_evidence(paper, sequence)
            fewest = fewest_missing(paper, sequence)
            for pairs in all_valid_pairs(paper, sequence):
                for many in range(len(sequence) + 1):
                    right = many == fewest == len(sequence) - 2 * len(pairs)
                    self.assertIs(accepts_missing(paper, sequence, many, (pairs, tables)), right)

    def test_each_integer_less_or_greater(self):
        for paper, sequence in SMALL[::5] + LONG:
            pairs, tables = missing_evidence(paper, sequence)
            fewest = fewest_missing(paper, sequence)
            for other in changed(tables, -1):
                self.assertIs(accepts_missing(paper, sequence, fewest, (pairs, other)), False)
            for by in (1, 2):
                for other in changed(tables, by):
                    right = are_right(paper, sequence, other) and other[1][0] <= len(pairs)
                    self.assertIs(accepts_missing(paper, sequence, fewest, (pairs, other)), right)

    def test_greater_integers_that_are_right_as_well(self):
        table = (((0, 0, 0), (0, 0), (0,)), (0, 0, 0))
        self.assertIs(accepts_missing((1, 0), (0, 0), 2, ((), table)), True)
        table = (((0, 0, 1), (0, 0), (0,)), (1, 0, 0))
        self.assertIs(accepts_missing((1, 0), (0, 0), 2, ((), table)), False)
        self.assertIs(accepts_missing((1, 0), (0, 1), 0, (((0, 1),), table)), True)
        self.assertIs(accepts_missing((1, 0), (0, 1), 2, ((), table)), False)
        table = (((0, 1, 1), (1, 1), (1,)), (1, 0, 0))
        self.assertIs(accepts_missing((1, 0), (0, 1), 0, (((0, 1),), table)), False)
        table = (((0, 0, 0, 1), (0, 0, 0), (0, 0), (0,)), (1, 0, 0, 0))
        self.assertIs(accepts_missing((1, 0), (0, 0, 1), 1, (((0, 2),), table)), False)
        table = (((0, 0, 1, 1), (0, 0, 1), (0, 0), (0,)), (1, 1, 0, 0))
        self.assertIs(accepts_missing((1, 0), (0, 0, 1), 1, (((0, 2),), table)), True)
        self.assertIs(accepts_missing((1, 0), (0, 0, 1), 1, (((1, 2),), table)), True)

    def test_evidence_that_is_changed_at_one_place(self):
        for paper, sequence in [
            (PAPER, ()), (PAPER, (0,)), (PAPER, (0, 1)), (PAPER, (0, 1, 1)), (PAPER, (2, 0, 2, 1)), ((0,), (0,) * 4),
        ]:
            evidence = missing_evidence(paper, sequence)
            valid = {written(pairs) for pairs in all_valid_pairs(paper, sequence)}
            many = len(sequence)
            for value in variants(evidence):
                right = False
                if type(value) is tuple and len(value) == 2 and written(value[0]) in valid and has_form(many, value[1]):
                    right = are_right(paper, sequence, value[1]) and value[1][1][0] <= len(value[0])
                for told in range(many + 2):
                    expected = right and many - 2 * len(value[0]) == told
                    self.assertIs(accepts_missing(paper, sequence, told, value), expected)

    def test_evidence_is_there_for_exactly_one_number(self):
        # Of two leaves, all tables of small integers, with all pairs.
        for paper, sequence in [((1, 0), (0, 1)), ((1, 0), (0, 0)), ((0,), (0, 0))]:
            accepted = set()
            for row in product(range(3), repeat=9):
                tables = ((row[:3], row[3:5], row[5:6]), row[6:])
                for pairs in all_valid_pairs(paper, sequence):
                    many = 2 - 2 * len(pairs)
                    if accepts_missing(paper, sequence, many, (pairs, tables)):
                        accepted.add(many)
            self.assertEqual(accepted, {fewest_missing(paper, sequence)})

    def test_judged_values_can_be_of_any_kind(self):
        pairs, tables = missing_evidence(PAPER, (0, 1))
        nests, ends = tables
        others = [
            (), (pairs,), (pairs, tables, ()), [pairs, tables], (tables, pairs), (pairs, nests), (pairs, ends), (pairs, ()),
            (pairs, None), (None, tables), (DEEP, tables), (pairs, DEEP), (pairs, DEEP_LIST), (pairs, (DEEP, ends)),
            (pairs, (nests, DEEP)), (pairs, ((DEEP, DEEP, DEEP), ends)), (pairs, (nests, (DEEP, 0, 0))), (pairs, (nests,)),
            (pairs, (((DEEP, 0, 1), (0, 0), (0,)), ends)), (pairs, [nests, ends]), (pairs, (list(nests), ends)),
            (pairs, (nests, list(ends))), (pairs, (((0, 0, True), (0, 0), (0,)), ends)), (pairs, (nests, (True, 0, 0))),
            (pairs, (((0, 0, 1), (0, False), (0,)), ends)), (pairs, (nests, (1, 0, False))), (pairs, (nests + ((),), ends)),
            (pairs, (nests[:2], ends)), (pairs, (nests, ends + (0,))), (pairs, (nests, ends[:2])), (pairs, (nests, "100")),
            (pairs, (("001", "00", "0"), ends)), (((0, True),), tables), ([(0, 1)], tables), (pairs, (nests, ends), None),
        ]
        for value in OTHER_KINDS + others:
            for many in range(13):
                self.assertIs(accepts_missing(PAPER, (0, 1), many, value), False)

    def test_wrong_arguments(self):
        sequences = [*wrong_sequences(PAPER), (0,) * 13, (2,) * 16]
        wrong = [("paper", wrong_papers()), ("sequence", sequences)]
        for sequence in [(0, 1, 1), (2,) * 12]:
            evidence = missing_evidence(PAPER, sequence)
            assert_checks(self, missing_evidence, [PAPER, sequence], wrong)
            for value in (None, evidence, DEEP):
                many = ("many", wrong_integers(0, 12))
                assert_checks(self, accepts_missing, [PAPER, sequence, 12, value], [*wrong, many, ("value", [])])
        assert_bad(self, "many", accepts_missing, [PAPER, (), 13, ((), (((0,),), (0,)))])


if __name__ == "__main__":
    unittest.main()

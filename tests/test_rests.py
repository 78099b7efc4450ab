import unittest
from itertools import product

from helper import (
    DEEP, DEEP_LIST, OTHER_KINDS, all_collations, all_papers, all_sequences, assert_checks, assert_judge, book_cases,
    compositions, folds, mirror, parts, variants, wrong_papers, wrong_sequences,
)
from quiremarks.factors import split
from quiremarks.rests import accepts_sequence, sequence_evidence

PAPER = (1, 0, 2)
CASES = book_cases()


def beginnings(paper, sequence):
    """Each collation of first leaves but not of all, with the pairs that can be told for each even number behind."""
    found = []
    for sheets in range((len(sequence) - 1) // 2 + 1):
        begin = 2 * sheets
        rest = [
            [
                (leaf, begin + begin + many - 1 - leaf) for leaf in range(begin, begin + many // 2)
                if paper[sequence[leaf]] != sequence[begin + begin + many - 1 - leaf]
            ]
            for many in range(2, len(sequence) - begin + 1, 2)
        ]
        if begin < len(sequence):
            found += [(collation, rest) for collation in all_collations(paper, sequence[:begin])]
    return found


def all_evidence(paper, sequence):
    """All evidence about the sequence, in the words of point 37."""
    found = [("collation", collation) for collation in all_collations(paper, sequence)]
    for collation, rest in beginnings(paper, sequence):
        found += [("rest", collation, pairs) for pairs in product(*rest)]
    return found


class RestsTest(unittest.TestCase):
    def test_examples(self):
        self.assertEqual(sequence_evidence(PAPER, (0, 1, 1, 0)), ("collation", (1, 1)))
        self.assertEqual(sequence_evidence(PAPER, (0, 1, 2, 0, 2, 1)), ("rest", (1,), ((2, 3), (2, 5))))
        self.assertIs(accepts_sequence(PAPER, (0, 1, 0, 1), ("collation", (2,))), True)
        self.assertIs(accepts_sequence(PAPER, (0,), ("rest", (), ())), True)
        self.assertIs(accepts_sequence(PAPER, (0, 1), ("rest", (), ((0, 1),))), False)

    def test_the_told_evidence_against_all_collations(self):
        for paper, sequence, found in CASES:
            told = sequence_evidence(paper, sequence)
            self.assertIs(accepts_sequence(paper, sequence, told), True)
            if found:
                self.assertEqual(told, ("collation", found[0]))
                continue
            factors, rest = split(paper, sequence)
            begin = len(sequence) - len(rest)
            pairs = []
            for many in range(2, len(rest) + 1, 2):
                self.assertFalse(folds(paper, rest[:many]))
                outermost = [leaf for leaf in range(many) if mirror(paper, rest[:many])[leaf] != rest[leaf]][0]
                pairs.append((begin + outermost, begin + many - 1 - outermost))
            collation = tuple(len(factor) // 2 for factor in factors)
            self.assertEqual(told, ("rest", collation, tuple(pairs)))

    def test_just_the_evidence_of_short_sequences_is_accepted(self):
        for paper in all_papers(2):
            for sequence in all_sequences(paper, 5):
                right = all_evidence(paper, sequence)
                self.assertEqual({evidence[0] for evidence in right}, {right[0][0]})
                self.assertEqual(right[0][0] == "collation", bool(all_collations(paper, sequence)))
                assert_judge(self, accepts_sequence, [paper, sequence], right, right)
                half = len(sequence) // 2
                leaves = range(len(sequence))
                pairs = list(product(leaves, repeat=2))
                values = [("collation", row) for many in range(half + 2) for row in compositions(many)]
                for many in range(half + 2):
                    for collation in compositions(many):
                        places = max(half - many, 0)
                        values += [("rest", collation, row) for row in product(pairs, repeat=min(places, 1))]
                        values += [("rest", collation, row) for row in product(pairs[::3], repeat=min(places, 2))]
                assert_judge(self, accepts_sequence, [paper, sequence], right, values)

    def test_evidence_that_is_changed_at_one_place(self):
        for paper, sequence in [
            (PAPER, ()), (PAPER, (0,)), (PAPER, (2, 2)), (PAPER, (0, 1, 0, 1)), (PAPER, (0, 1, 2, 0, 2, 1)),
            (PAPER, (2, 2, 2, 0, 1)), (PAPER, (2, 2, 2, 2, 2, 2)), ((0, 1), (0, 0, 0, 0, 1)), ((1, 0), (0, 1, 0, 0, 0, 1)),
            (PAPER, (2, 2, 1, 0, 0, 1, 2)), ((1, 0), (0,) * 6), ((0, 1, 2), (0, 0, 1, 2, 0, 1)),
        ]:
            right = all_evidence(paper, sequence)
            for evidence in right[:40]:
                assert_judge(self, accepts_sequence, [paper, sequence], right, variants(evidence))

    def test_long_rests(self):
        for paper, sequence in [((1, 0), (0,) * 16), ((1, 0), (0,) * 15), (PAPER, (2, 2) + (0,) * 14)]:
            word, collation, pairs = sequence_evidence(paper, sequence)
            begin = 2 * len(collation)
            self.assertEqual((word, collation), ("rest", () if begin == 0 else (1,)))
            self.assertEqual(pairs, tuple((begin, begin + many - 1) for many in range(2, len(sequence) - begin + 1, 2)))
            for place, (leaf, other) in enumerate(pairs):
                for step in range(-2, 10):
                    pair = (leaf + step, other - step)
                    value = (word, collation, pairs[:place] + (pair,) + pairs[place + 1:])
                    self.assertIs(accepts_sequence(paper, sequence, value), leaf <= pair[0] < pair[1])
            self.assertIs(accepts_sequence(paper, sequence, (word, collation, pairs[::-1])), len(pairs) < 2)

    def test_a_rest_of_one_leaf_and_a_rest_of_none(self):
        self.assertEqual(sequence_evidence(PAPER, (2, 2, 0)), ("rest", (1,), ()))
        self.assertIs(accepts_sequence(PAPER, (2, 2, 0), ("rest", (1,), ())), True)
        self.assertIs(accepts_sequence(PAPER, (2, 2, 0), ("rest", (1,), ((0, 1),))), False)
        self.assertIs(accepts_sequence(PAPER, (2, 2), ("rest", (1,), ())), False)
        self.assertIs(accepts_sequence(PAPER, (), ("rest", (), ())), False)
        self.assertIs(accepts_sequence(PAPER, (), ("collation", ())), True)
        self.assertIs(accepts_sequence(PAPER, (2,) * 6, ("rest", (1, 2), ())), False)
        # A gathering that would reach beyond the last leaf is none.
        self.assertIs(accepts_sequence(PAPER, (2,) * 5, ("rest", (1, 2), ())), False)
        self.assertIs(accepts_sequence(PAPER, (2,) * 4, ("collation", (1, 2))), False)

    def test_gatherings_are_prime_if_they_have_one_collation(self):
        for paper, sequence, found in CASES:
            factors, rest = split(paper, sequence)
            for factor in factors:
                self.assertEqual(all_collations(paper, factor), [(len(factor) // 2,)])
            if not rest:
                primes = [
                    row for row in compositions(len(sequence) // 2)
                    if all(all_collations(paper, part) == [(len(part) // 2,)] for part in parts(sequence, row))
                ]
                self.assertEqual(primes, [found[0]])

    def test_judged_values_can_be_of_any_kind(self):
        others = [
            "collation", "rest", ("collation",), ("rest",), ("rest", (1,)), ("collation", (1, 1), ()), (("rest",), (), ()),
            ["collation", (1, 1)], ("rest", (), (), ()), (0, (1, 1)), (None, (1, 1)), (True, (1, 1)), ((), (1, 1)),
            ("collation", DEEP), ("collation", DEEP_LIST), (DEEP, (1, 1)), (DEEP_LIST, (), ()), ("rest", DEEP, ()),
            ("rest", (), DEEP), ("rest", (), (DEEP,)), ("rest", (), ((DEEP, 1), (0, 3))), ("rest", (), ((0, DEEP),)),
            ("rest", (1,), ((2, 3),)), ("two", (1, 1), (2,)), ("collation", (1,) * 100000), ("rest", (1,) * 100000, ()),
        ]
        for value in OTHER_KINDS + others:
            self.assertIs(accepts_sequence(PAPER, (0, 1, 1, 0), value), False)
            self.assertIs(accepts_sequence(PAPER, (0, 0, 1, 0), value), False)

    def test_wrong_arguments(self):
        wrong = [("paper", wrong_papers()), ("sequence", wrong_sequences(PAPER))]
        assert_checks(self, sequence_evidence, [PAPER, (0, 1, 2)], wrong)
        for value in (None, ("rest", (1,), ()), DEEP):
            assert_checks(self, accepts_sequence, [PAPER, (0, 1, 2), value], [*wrong, ("value", [])])


if __name__ == "__main__":
    unittest.main()

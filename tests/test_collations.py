import unittest

from helper import (
    DEEP, DEEP_LIST, OTHER_KINDS, all_papers, all_renamings, all_sequences, assert_bad, assert_checks, book_cases,
    compositions, mirror, parts, renamed, renamed_paper, wrong_integers, wrong_papers, wrong_sequences,
)
from quiremarks.collations import (
    count_collations, count_with, fewest, index_of_collation, is_collation, largest, next_collation, nth_collation,
)
from quiremarks.factors import split

PAPER = (1, 0, 2)
TWOS = (2, 2, 2, 2, 2, 2)
EIGHT = (0, 1, 2, 2, 0, 1, 2, 2)
CASES = book_cases()


def is_run(factors):
    return factors == factors[::-1]


class CollationsTest(unittest.TestCase):
    def test_examples_of_the_interface(self):
        self.assertEqual(count_collations(PAPER, TWOS), 4)
        found = [nth_collation(PAPER, TWOS, index) for index in range(4)]
        self.assertEqual(found, [(1, 1, 1), (1, 2), (2, 1), (3,)])
        self.assertEqual(index_of_collation(PAPER, TWOS, (2, 1)), 2)
        self.assertEqual(next_collation(PAPER, TWOS, (1, 2)), (2, 1))
        self.assertIsNone(next_collation(PAPER, TWOS, (3,)))
        self.assertEqual((count_with(PAPER, TWOS, 2), largest(PAPER, TWOS), fewest(PAPER, TWOS)), (2, 3, (3,)))
        self.assertEqual((count_collations(PAPER, EIGHT), fewest(PAPER, EIGHT), largest(PAPER, EIGHT)), (3, (1, 3), 3))
        self.assertIs(is_collation(PAPER, EIGHT, (3, 1)), True)
        self.assertIs(is_collation(PAPER, EIGHT, (2, 2)), False)
        self.assertEqual((count_collations(PAPER, ()), fewest(PAPER, ())), (1, ()))
        self.assertIsNone(largest(PAPER, ()))
        self.assertEqual(count_collations(PAPER, (0,)), 0)
        self.assertIsNone(index_of_collation(PAPER, (0, 1, 1, 0), (2,)))

    def test_examples_of_point_53(self):
        told = {
            (0, 1, 0, 1): [(1, 1), (2,)], (0, 1, 1, 0): [(1, 1)], TWOS: [(1, 1, 1), (1, 2), (2, 1), (3,)],
            EIGHT: [(1, 1, 1, 1), (1, 3), (3, 1)],
        }
        for sequence, collations in told.items():
            many = count_collations(PAPER, sequence)
            self.assertEqual([nth_collation(PAPER, sequence, index) for index in range(many)], collations)

    def test_the_cases_have_all_lengths_and_few_and_many_collations(self):
        self.assertEqual({len(sequence) for _, sequence, _ in CASES}, set(range(17)))
        self.assertTrue({0, 1, 2, 3, 128} <= {len(found) for _, _, found in CASES})
        self.assertTrue(any(len(sequence) == 16 and found == [] for _, sequence, found in CASES))

    def test_count_and_index(self):
        for paper, sequence, found in CASES:
            self.assertEqual(count_collations(paper, sequence), len(found))
            for index, collation in enumerate(found):
                self.assertEqual(nth_collation(paper, sequence, index), collation)
                self.assertEqual(index_of_collation(paper, sequence, collation), index)
            for index in (-1, len(found), len(found) + 1, True, False, None):
                assert_bad(self, "index", nth_collation, [paper, sequence, index])

    def test_next_collation(self):
        for paper, sequence, found in CASES:
            for collation, behind in zip(found, [*found[1:], None]):
                self.assertEqual(next_collation(paper, sequence, collation), behind)

    def test_is_collation_of_all_splits(self):
        for paper, sequence, found in CASES:
            half = len(sequence) // 2
            for many in {half, max(half - 1, 0), half + 1}:
                for value in compositions(many)[::3] if many == 8 else compositions(many):
                    right = value in found
                    self.assertIs(is_collation(paper, sequence, value), right)
                    if not right:
                        self.assertIsNone(index_of_collation(paper, sequence, value))

    def test_count_with_each_number(self):
        for paper, sequence, found in CASES:
            counts = [count_with(paper, sequence, many) for many in range(9)]
            self.assertEqual(counts, [sum(len(collation) == many for collation in found) for many in range(9)])

    def test_fewest_and_largest(self):
        for paper, sequence, found in CASES:
            if not found:
                self.assertIsNone(fewest(paper, sequence))
                self.assertIsNone(largest(paper, sequence))
                continue
            least = min(len(collation) for collation in found)
            self.assertEqual(fewest(paper, sequence), [row for row in found if len(row) == least][0])
            self.assertEqual(largest(paper, sequence), max([max(row) for row in found if row], default=None))

    def test_each_gathering_is_a_run_of_factors(self):
        for paper, sequence, found in CASES:
            factors, rest = split(paper, sequence)
            self.assertEqual(found == [], rest != ())
            if rest != ():
                continue
            runs = []
            for groups in compositions(len(factors)):
                pieces, begin = [], 0
                for many in groups:
                    pieces.append(factors[begin:begin + many])
                    begin += many
                if all(is_run(piece) for piece in pieces):
                    runs.append(tuple(sum(len(factor) for factor in piece) // 2 for piece in pieces))
            self.assertEqual(sorted(runs), found)
            self.assertEqual(found[0], tuple(len(factor) // 2 for factor in factors))
            self.assertEqual([len(row) for row in found].count(len(factors)), 1)
            if factors:
                most = 2 ** (len(factors) - 1)
                self.assertEqual(len(found) == most, len(set(factors)) == 1)
                self.assertTrue(1 <= len(found) <= most)

    def test_the_boundaries_split_the_number(self):
        for paper, sequence, found in CASES:
            for opening in range(1, len(sequence)):
                there = sum(opening in [sum(row[:many]) * 2 for many in range(len(row))] for row in found)
                ahead = count_collations(paper, sequence[:opening])
                behind = count_collations(paper, sequence[opening:])
                self.assertEqual(there, ahead * behind)

    def test_the_empty_sequence(self):
        for paper in all_papers(3):
            self.assertEqual(count_collations(paper, ()), 1)
            self.assertEqual((nth_collation(paper, (), 0), index_of_collation(paper, (), ())), ((), 0))
            self.assertEqual((fewest(paper, ()), largest(paper, ())), ((), None))
            self.assertIs(is_collation(paper, (), ()), True)
            self.assertIsNone(next_collation(paper, (), ()))
            self.assertEqual([count_with(paper, (), many) for many in range(9)], [1] + [0] * 8)

    def test_a_sequence_that_is_not_collatable(self):
        for sequence in [(0,), (0, 0), (0, 2, 0, 1), (0,) * 15, (0,) * 16]:
            self.assertEqual(count_collations(PAPER, sequence), 0)
            self.assertEqual([count_with(PAPER, sequence, many) for many in range(9)], [0] * 9)
            self.assertEqual((fewest(PAPER, sequence), largest(PAPER, sequence)), (None, None))
            self.assertIs(is_collation(PAPER, sequence, ()), False)
            for index in (0, 1, -1):
                assert_bad(self, "index", nth_collation, [PAPER, sequence, index])
            for collation in compositions(len(sequence) // 2):
                assert_bad(self, "collation", next_collation, [PAPER, sequence, collation])

    def test_eight_pairs_of_leaves_with_the_same_mark(self):
        splits = compositions(8)
        for paper, sequence in [((0,), (0,) * 16), (PAPER, (2,) * 16), (PAPER, (0, 1) * 8)]:
            self.assertEqual(count_collations(paper, sequence), 128)
            self.assertEqual([nth_collation(paper, sequence, index) for index in range(128)], splits)
            self.assertEqual([index_of_collation(paper, sequence, row) for row in splits], list(range(128)))
            self.assertEqual([count_with(paper, sequence, k) for k in range(9)], [0, 1, 7, 21, 35, 35, 21, 7, 1])
            self.assertEqual((fewest(paper, sequence), largest(paper, sequence)), ((8,), 8))

    def test_the_reflected_sequence(self):
        for paper, sequence, found in CASES:
            back = mirror(paper, sequence)
            expected = sorted(row[::-1] for row in found)
            self.assertEqual([nth_collation(paper, back, k) for k in range(count_collations(paper, back))], expected)

    def test_renamed_marks(self):
        for names in all_renamings((0, 1, 2)):
            new = renamed_paper(PAPER, names)
            for sequence in all_sequences(PAPER, 6, 4)[::4] + [EIGHT, TWOS, (0, 1, 2, 2) * 4]:
                there = renamed(sequence, names)
                many = count_collations(PAPER, sequence)
                self.assertEqual(count_collations(new, there), many)
                for index in range(many):
                    self.assertEqual(nth_collation(new, there, index), nth_collation(PAPER, sequence, index))
                self.assertEqual(fewest(new, there), fewest(PAPER, sequence))
                self.assertEqual(largest(new, there), largest(PAPER, sequence))

    def test_judged_values_can_be_of_any_kind(self):
        others = [
            (True,), (1, True, 1), (True, 2), [1, 1, 1], [3], 3, (0, 3), (3, 0), (1, 1, 1, 0), (-1, 4), (4, -1), (4,),
            (1, 1), (1, 1, 1, 1), (2, 2), (3, 1), ((1, 1, 1),), (1, (1,), 1), "111", ("1", "1", "1"), (1, None, 1),
            (10 ** 30,), (-10 ** 30, 10 ** 30 + 3), (1, DEEP), (DEEP, 1, 1), (1, 1, DEEP_LIST), (1,) * 10000, {3: 3},
        ]
        for value in OTHER_KINDS + others:
            self.assertIs(is_collation(PAPER, TWOS, value), False)
            self.assertIsNone(index_of_collation(PAPER, TWOS, value))
            assert_bad(self, "collation", next_collation, [PAPER, TWOS, value])
            self.assertIs(is_collation(PAPER, (), value), False)
            self.assertIsNone(index_of_collation(PAPER, (2,), value))

    def test_a_split_that_runs_over_the_end_is_none(self):
        self.assertIs(is_collation((0,), (0,) * 4, (1, 2)), False)
        self.assertIs(is_collation((0,), (0,) * 4, (2, 1)), False)
        self.assertIs(is_collation((0,), (0,) * 5, (2,)), False)
        self.assertIs(is_collation((0,), (0,) * 5, (1, 1, 1)), False)

    def test_wrong_arguments(self):
        wrong = [("paper", wrong_papers()), ("sequence", wrong_sequences(PAPER))]
        for function in (count_collations, fewest, largest):
            assert_checks(self, function, [PAPER, EIGHT], wrong)
        for value in (None, (1, 3), DEEP):
            for function in (is_collation, index_of_collation):
                assert_checks(self, function, [PAPER, EIGHT, value], [*wrong, ("value", [])])
        many = ("many", wrong_integers(0, 8))
        assert_checks(self, count_with, [PAPER, EIGHT, 8], [*wrong, many])
        assert_bad(self, "many", count_with, [PAPER, EIGHT, 9])
        assert_bad(self, "many", count_with, [PAPER, (0,), 9])
        assert_checks(self, nth_collation, [PAPER, EIGHT, 2], [*wrong, ("index", wrong_integers(0, 2))])
        collations = ("collation", [*OTHER_KINDS, (2, 2), (1, 1, 2), (4,), (1, 1, 1), [1, 3], (), (1, 3, 0)])
        assert_checks(self, next_collation, [PAPER, EIGHT, (1, 3)], [*wrong, collations])

    def test_splits_of_half_of_the_leaves_that_are_no_collations(self):
        for sequence in [EIGHT, TWOS, (0, 1, 1, 0), (0, 1, 0, 1), (0, 0, 1, 1)]:
            for split_of_half in compositions(len(sequence) // 2):
                gatherings = parts(sequence, split_of_half)
                if all(part == mirror(PAPER, part) for part in gatherings):
                    next_collation(PAPER, sequence, split_of_half)
                else:
                    assert_bad(self, "collation", next_collation, [PAPER, sequence, split_of_half])


if __name__ == "__main__":
    unittest.main()

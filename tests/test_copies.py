import unittest
from itertools import combinations, product

from helper import (
    DEEP, DEEP_LIST, OTHER_KINDS, all_collations, all_papers, all_sequences, assert_bad, assert_checks, compositions,
    copies_cases, wrong_copies, wrong_integers,
)
from quiremarks.copies import conflict, count_common, excluded, finest_common, sufficient

PAPER = (1, 0)
TWO = ((PAPER, (0, 1, 0, 1)), (PAPER, (0, 1, 1, 0)))
THREE = (
    (PAPER, (0, 1, 0, 1, 1, 0, 1, 0)), (PAPER, (0, 1, 1, 0, 1, 0, 0, 1)), (PAPER, (0, 0, 1, 1, 0, 0, 1, 1)),
)
CASES = copies_cases()


def boundaries(collation):
    return [2 * sum(collation[:many]) for many in range(1, len(collation))]


def plain_selection(copies, common):
    """The told selection, by going through all collations of each."""
    indexes = range(len(copies))
    for size in range(1, len(copies) + 1):
        for selection in combinations(indexes, size):
            found = set(all_collations(*copies[selection[0]]))
            for index in selection:
                found &= set(all_collations(*copies[index]))
            if found == set(common):
                return selection
    return None


def plain_conflict(copies, collation):
    """The conflict, by going through the leaves in the words of point 69."""
    for index, (paper, sequence) in enumerate(copies):
        begin = 0
        for sheets in collation:
            for depth in range(sheets):
                leaf, other = begin + depth, begin + 2 * sheets - 1 - depth
                if paper[sequence[leaf]] != sequence[other]:
                    return (index, leaf, other)
            begin += 2 * sheets
    return None


class CopiesTest(unittest.TestCase):
    def test_examples(self):
        self.assertEqual((finest_common(TWO), count_common(TWO), sufficient(TWO)), ((1, 1), 1, (1,)))
        self.assertEqual((conflict(TWO, (2,)), conflict(TWO, (1, 1)), excluded(TWO, 0)), ((1, 0, 3), None, ()))
        self.assertIsNone(finest_common(THREE))
        self.assertEqual((count_common(THREE), sufficient(THREE)), (0, (0, 1, 2)))
        self.assertEqual(conflict(THREE, (1, 1, 1, 1)), (2, 0, 1))
        self.assertEqual((finest_common(THREE[::2]), excluded(THREE[::2], 0)), ((2, 2), (2, 6)))

    def test_the_cases_have_what_the_document_names(self):
        counts = [len(common) for _, common in CASES]
        self.assertTrue({0, 1, 2, 4, 128} <= set(counts))
        self.assertEqual({len(copies) for copies, _ in CASES}, {1, 2, 3})
        self.assertTrue({0, 1, 2, 3, 4, 8, 12, 16} <= {len(copies[0][1]) for copies, _ in CASES})
        self.assertEqual({len(sufficient(copies)) for copies, _ in CASES}, {1, 2, 3})
        self.assertEqual({sufficient(copies) for copies, _ in CASES if len(copies) == 3}, {
            (0,), (1,), (2,), (0, 1), (0, 2), (1, 2), (0, 1, 2),
        })

    def test_the_finest_and_the_number_of_the_common_collations(self):
        for copies, common in CASES:
            self.assertEqual(count_common(copies), len(common))
            self.assertEqual(finest_common(copies), common[0] if common else None)

    def test_the_boundaries_of_the_finest_one(self):
        for copies, common in CASES:
            if common:
                many = len(copies[0][1])
                openings = [
                    opening for opening in range(many + 1)
                    if count_common(tuple((paper, sequence[:opening]) for paper, sequence in copies)) > 0
                ]
                self.assertEqual(openings, sorted({0, many, *boundaries(common[0])}))
                for collation in common:
                    self.assertLessEqual(set(boundaries(collation)), set(boundaries(common[0])))

    def test_the_told_selection(self):
        for copies, common in CASES:
            self.assertEqual(sufficient(copies), plain_selection(copies, common))

    def test_the_conflict_of_each_collation_of_half_of_the_leaves(self):
        for copies, common in CASES:
            many = len(copies[0][1])
            if many % 2 == 0:
                for collation in compositions(many // 2):
                    found = conflict(copies, collation)
                    self.assertEqual(found, plain_conflict(copies, collation))
                    self.assertEqual(found is None, collation in common)

    def test_excluded_boundaries(self):
        seen = set()
        for copies, common in CASES:
            for index, (paper, sequence) in enumerate(copies):
                found = excluded(copies, index)
                if not common:
                    self.assertIsNone(found)
                    continue
                own = boundaries(all_collations(paper, sequence)[0])
                self.assertEqual(found, tuple(opening for opening in own if opening not in boundaries(common[0])))
                seen.add(found)
        self.assertGreater(len(seen), 5)

    def test_further_copies_and_their_sequence(self):
        for copies, common in CASES:
            self.assertEqual(count_common(copies[::-1]), len(common))
            self.assertEqual(finest_common(copies[::-1]), finest_common(copies))
            if len(copies) < 3:
                self.assertEqual(count_common(copies + copies[:1]), len(common))
                self.assertEqual(finest_common(copies[-1:] + copies), finest_common(copies))
                self.assertEqual(sufficient(copies + copies[-1:]), sufficient(copies))
            else:
                self.assertLessEqual(len(common), count_common(copies[1:]))

    def test_three_copies_of_which_each_two_have_a_common_collation(self):
        for first, second in combinations(range(3), 2):
            self.assertGreater(count_common((THREE[first], THREE[second])), 0)
        self.assertEqual(count_common(THREE), 0)

    def test_copies_on_papers_of_their_own(self):
        big = ((0, 1, 2, 3, 4, 5), (5, 0, 0, 5) + (5,) * 12)
        other = ((1, 0, 3, 2, 5, 4), (4, 5, 5, 4) + (4, 5) * 6)
        third = ((5, 4, 2, 3, 1, 0), (0, 5, 0, 5) + (2,) * 12)
        for copies in product([big, other, third], repeat=3):
            common = set.intersection(*[set(all_collations(*copy)) for copy in copies])
            self.assertEqual((count_common(copies), finest_common(copies)), (len(common), min(common, default=None)))

    def test_copies_without_leaves_and_with_an_odd_number(self):
        for papers in product(all_papers(2), repeat=3):
            none = tuple((paper, ()) for paper in papers)
            self.assertEqual((finest_common(none), count_common(none), sufficient(none)), ((), 1, (0,)))
            self.assertEqual((conflict(none, ()), excluded(none, 2)), (None, ()))
            for collation in [(1,), (0,), None, []]:
                assert_bad(self, "collation", conflict, [none, collation])
            odd = tuple((paper, (0, 0, 0)) for paper in papers)
            self.assertEqual((finest_common(odd), count_common(odd), sufficient(odd)), (None, 0, (0,)))
            self.assertIsNone(excluded(odd, 0))
            for collation in [(), (1,), (2,), (1, 1)]:
                assert_bad(self, "collation", conflict, [odd, collation])

    def test_one_copy_is_like_the_sequence_alone(self):
        for paper in all_papers(2):
            for sequence in all_sequences(paper, 6):
                found = all_collations(paper, sequence)
                one = ((paper, sequence),)
                self.assertEqual((count_common(one), sufficient(one)), (len(found), (0,)))
                self.assertEqual(excluded(one, 0), () if found else None)

    def test_wrong_arguments(self):
        copies = ("copies", wrong_copies())
        for function in (finest_common, count_common, sufficient):
            assert_checks(self, function, [TWO], [copies])
            assert_checks(self, function, [THREE], [copies])
        collations = [
            *OTHER_KINDS, (), (1,), (1, 2), (3,), (2, 0), (0, 2), (3, -1), (1, 1, 1), [2], [1, 1], (True, 1), (1, True),
            (1, 1.0), ("1", 1), (1, (1,)), (10 ** 30,), (10 ** 30, 2 - 10 ** 30), (DEEP, 1), (1, DEEP_LIST), 2, "2",
        ]
        assert_checks(self, conflict, [TWO, (2,)], [copies, ("collation", collations)])
        assert_checks(self, excluded, [TWO, 1], [copies, ("copy", wrong_integers(0, 1))])
        assert_checks(self, excluded, [THREE, 2], [copies, ("copy", wrong_integers(0, 2))])


if __name__ == "__main__":
    unittest.main()

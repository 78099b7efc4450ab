import unittest

from helper import (
    all_collations, all_renamings, assert_bad, assert_checks, assert_not_possible, book_cases, mirror, parts, renamed,
    renamed_paper, wrong_integers, wrong_papers, wrong_sequences,
)
from quiremarks.certainty import (
    is_only, possible_centers, possibly_conjugate, reason, share, sure_boundaries, sure_pairs,
)

PAPER = (1, 0, 2)
CASES = book_cases()
COLLATABLE = [case for case in CASES if case[2]]
OTHERS = [case for case in CASES if not case[2]]


def boundaries(collation):
    return [2 * sum(collation[:many]) for many in range(1, len(collation))]


def centers(collation):
    return [2 * sum(collation[:many]) + collation[many] for many in range(len(collation))]


def conjugates(collation):
    """The other leaf of the sheet, for each leaf."""
    found = {}
    for many, sheets in enumerate(collation):
        begin = 2 * sum(collation[:many])
        for leaf in range(2 * sheets):
            found[begin + leaf] = begin + 2 * sheets - 1 - leaf
    return found


def plain_reason(factors):
    """The reason, in the words of point 55."""
    for index, factor in enumerate(factors):
        if factors[index + 1:index + 2] == [factor]:
            return (index, 1)
        if factors[index + 2:index + 3] == [factor]:
            return (index, 2)
    return None


def lies_in_a_run(factors, place):
    """Whether the end of the factors ahead of the place lies inside a run of two or more of them."""
    return any(
        factors[first:last] == factors[first:last][::-1]
        for first in range(place) for last in range(place + 1, len(factors) + 1)
    )


class CertaintyTest(unittest.TestCase):
    def test_examples(self):
        self.assertIs(is_only(PAPER, (0, 1, 0, 1)), False)
        self.assertEqual(reason(PAPER, (0, 1, 0, 1)), (0, 1))
        self.assertEqual((sure_boundaries(PAPER, (0, 1, 0, 1)), possible_centers(PAPER, (0, 1, 0, 1))), ((), (1, 2, 3)))
        self.assertEqual(share(PAPER, (0, 1, 0, 1), 2), (1, 1))
        self.assertEqual((possibly_conjugate(PAPER, (0, 1, 0, 1), 0), sure_pairs(PAPER, (0, 1, 0, 1))), ((1, 3), ()))
        self.assertIs(is_only(PAPER, (0, 1, 1, 0)), True)
        self.assertIsNone(reason(PAPER, (0, 1, 1, 0)))
        self.assertEqual(sure_boundaries(PAPER, (0, 1, 1, 0)), (2,))
        self.assertEqual(sure_pairs(PAPER, (0, 1, 1, 0)), ((0, 1), (2, 3)))
        self.assertEqual(reason(PAPER, (0, 1, 1, 0, 0, 1)), (0, 2))

    def test_just_one_collation_and_the_reason_of_more(self):
        seen = set()
        for paper, sequence, found in COLLATABLE:
            self.assertIs(is_only(paper, sequence), len(found) == 1)
            told = reason(paper, sequence)
            seen.add(told)
            self.assertEqual(told is None, len(found) == 1)
            self.assertEqual(told, plain_reason(parts(sequence, found[0])))
        self.assertTrue({None, (0, 1), (0, 2), (1, 1), (1, 2)} <= seen)

    def test_the_share_of_each_opening(self):
        for paper, sequence, found in COLLATABLE:
            for opening in range(len(sequence) + 1):
                expected = (
                    sum(opening in boundaries(row) for row in found), sum(opening in centers(row) for row in found),
                )
                self.assertEqual(share(paper, sequence, opening), expected)
                ahead, behind = (all_collations(paper, part) for part in (sequence[:opening], sequence[opening:]))
                if 0 < opening < len(sequence):
                    self.assertEqual(expected[0], len(ahead) * len(behind))
                else:
                    self.assertEqual(expected, (0, 0))

    def test_sure_boundaries_and_possible_centers(self):
        for paper, sequence, found in COLLATABLE:
            openings = range(len(sequence) + 1)
            sure = tuple(opening for opening in openings if all(opening in boundaries(row) for row in found))
            possible = tuple(opening for opening in openings if any(opening in centers(row) for row in found))
            if sequence == ():
                sure = ()
            self.assertEqual(sure_boundaries(paper, sequence), tuple(sure))
            self.assertEqual(possible_centers(paper, sequence), possible)
            self.assertEqual(set(sure) & set(possible), set())
            factors = parts(sequence, found[0])
            free = [place for place in range(1, len(factors)) if not lies_in_a_run(factors, place)]
            self.assertEqual(sure, tuple(sum(len(factor) for factor in factors[:place]) for place in free))
            if factors:
                self.assertLessEqual(len(sure), len(factors) - 1)
            if factors and len(found) == 1:
                self.assertEqual(len(sure), len(factors) - 1)

    def test_possibly_conjugate_leaves_and_sure_pairs(self):
        for paper, sequence, found in COLLATABLE:
            tables = [conjugates(row) for row in found]
            for leaf in range(len(sequence)):
                others = possibly_conjugate(paper, sequence, leaf)
                self.assertEqual(others, tuple(sorted({table[leaf] for table in tables})))
                self.assertNotEqual(others, ())
                for other in others:
                    self.assertIn(leaf, possibly_conjugate(paper, sequence, other))
                    self.assertEqual(paper[sequence[leaf]], sequence[other])
            sure = tuple(
                (leaf, tables[0][leaf]) for leaf in range(len(sequence))
                if leaf < tables[0][leaf] and len({table[leaf] for table in tables}) == 1
            )
            self.assertEqual(sure_pairs(paper, sequence), sure)

    def test_the_parts_at_a_sure_boundary(self):
        seen = 0
        for paper, sequence, found in COLLATABLE:
            for opening in sure_boundaries(paper, sequence):
                ahead, behind = sequence[:opening], sequence[opening:]
                self.assertEqual(len(found), len(all_collations(paper, ahead)) * len(all_collations(paper, behind)))
                for leaf in range(opening):
                    self.assertEqual(possibly_conjugate(paper, sequence, leaf), possibly_conjugate(paper, ahead, leaf))
                for leaf in range(len(behind)):
                    there = tuple(other + opening for other in possibly_conjugate(paper, behind, leaf))
                    self.assertEqual(possibly_conjugate(paper, sequence, leaf + opening), there)
                seen += len(found) > 1
        self.assertGreater(seen, 10)

    def test_the_reflected_sequence(self):
        for paper, sequence, _ in COLLATABLE:
            many = len(sequence)
            back = mirror(paper, sequence)
            self.assertIs(is_only(paper, back), is_only(paper, sequence))
            for opening in range(many + 1):
                self.assertEqual(share(paper, back, opening), share(paper, sequence, many - opening))
            turned = tuple(many - opening for opening in sure_boundaries(paper, sequence)[::-1])
            self.assertEqual(sure_boundaries(paper, back), turned)
            turned = tuple(many - opening for opening in possible_centers(paper, sequence)[::-1])
            self.assertEqual(possible_centers(paper, back), turned)
            pairs = sorted((many - 1 - other, many - 1 - leaf) for leaf, other in sure_pairs(paper, sequence))
            self.assertEqual(sure_pairs(paper, back), tuple(pairs))
            for leaf in range(many):
                turned = tuple(many - 1 - other for other in possibly_conjugate(paper, sequence, leaf)[::-1])
                self.assertEqual(possibly_conjugate(paper, back, many - 1 - leaf), turned)

    def test_renamed_marks(self):
        for names in all_renamings((0, 1, 2)):
            new = renamed_paper(PAPER, names)
            for paper, sequence, _ in COLLATABLE[::5]:
                if paper == PAPER:
                    there = renamed(sequence, names)
                    for function in (is_only, reason, sure_boundaries, possible_centers, sure_pairs):
                        self.assertEqual(function(new, there), function(paper, sequence))
                    for opening in range(len(sequence) + 1):
                        self.assertEqual(share(new, there, opening), share(paper, sequence, opening))
                    for leaf in range(len(sequence)):
                        self.assertEqual(possibly_conjugate(new, there, leaf), possibly_conjugate(paper, sequence, leaf))

    def test_the_empty_sequence(self):
        self.assertIs(is_only(PAPER, ()), True)
        self.assertIsNone(reason(PAPER, ()))
        self.assertEqual(share(PAPER, (), 0), (0, 0))
        self.assertEqual((sure_boundaries(PAPER, ()), possible_centers(PAPER, ()), sure_pairs(PAPER, ())), ((), (), ()))

    def test_eight_pairs_of_leaves_with_the_same_mark(self):
        sequence = (2,) * 16
        self.assertIs(is_only(PAPER, sequence), False)
        self.assertEqual(reason(PAPER, sequence), (0, 1))
        self.assertEqual([share(PAPER, sequence, opening)[0] for opening in range(17)], [0] + [0, 64] * 7 + [0, 0])
        self.assertEqual(share(PAPER, sequence, 8), (64, 16 + 4 + 1 + 1))
        self.assertEqual(possible_centers(PAPER, sequence), tuple(range(1, 16)))
        self.assertEqual((sure_boundaries(PAPER, sequence), sure_pairs(PAPER, sequence)), ((), ()))
        self.assertEqual(possibly_conjugate(PAPER, sequence, 3), (0, 2, 4, 6, 8, 10, 12, 14))

    def test_nothing_is_sure_of_a_sequence_that_is_not_collatable(self):
        for paper, sequence, _ in OTHERS:
            for function in (is_only, reason, sure_boundaries, possible_centers, sure_pairs):
                assert_not_possible(self, "collation", function, [paper, sequence])
            assert_not_possible(self, "collation", share, [paper, sequence, len(sequence)])
            assert_not_possible(self, "collation", possibly_conjugate, [paper, sequence, len(sequence) - 1])
            assert_bad(self, "opening", share, [paper, sequence, len(sequence) + 1])
            assert_bad(self, "leaf", possibly_conjugate, [paper, sequence, len(sequence)])

    def test_wrong_arguments(self):
        wrong = [("paper", wrong_papers()), ("sequence", wrong_sequences(PAPER))]
        for sequence in [(0, 1, 0, 1), (0, 1, 1, 0)]:
            for function in (is_only, reason, sure_boundaries, possible_centers, sure_pairs):
                assert_checks(self, function, [PAPER, sequence], wrong)
            openings = ("opening", wrong_integers(0, 4))
            assert_checks(self, share, [PAPER, sequence, 4], [*wrong, openings])
            leaves = ("leaf", wrong_integers(0, 3))
            assert_checks(self, possibly_conjugate, [PAPER, sequence, 3], [*wrong, leaves])
        assert_bad(self, "leaf", possibly_conjugate, [PAPER, (), 0])
        assert_bad(self, "sequence", is_only, [PAPER, (0,) * 17])


if __name__ == "__main__":
    unittest.main()

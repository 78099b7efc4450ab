import unittest

from helper import (
    DEEP, DEEP_LIST, OTHER_KINDS, all_papers, all_sequences, assert_checks, mirror, wrong_papers, wrong_sequences,
)
from quiremarks.papers import is_paper, is_sequence, mark_pairs, own_marks, reflected

PAPER = (1, 0, 2)


class PapersTest(unittest.TestCase):
    def test_examples(self):
        self.assertEqual(reflected(PAPER, (0, 0, 2)), (2, 1, 1))
        self.assertEqual(own_marks(PAPER), (2,))
        self.assertEqual(mark_pairs(PAPER), ((0, 1),))

    def test_papers_of_1_to_6_marks(self):
        # So many tuples are their own inverse.
        numbers = [1, 2, 4, 10, 26, 76]
        papers = all_papers(6)
        self.assertEqual([sum(len(paper) == many for paper in papers) for many in range(1, 7)], numbers)
        for paper in papers:
            self.assertIs(is_paper(paper), True)

    def test_no_other_tuple_of_few_integers_is_a_paper(self):
        papers = set(all_papers(4))
        marks = (-2, -1, 0, 1, 2, 3, 4)
        for one in marks:
            self.assertIs(is_paper((one,)), (one,) in papers)
            for two in marks:
                self.assertIs(is_paper((one, two)), (one, two) in papers)
                for three in marks:
                    self.assertIs(is_paper((one, two, three)), (one, two, three) in papers)

    def test_what_is_no_paper(self):
        for value in wrong_papers():
            self.assertIs(is_paper(value), False)
        for value in [(), (0, 1, 2, 3, 4, 5, 6), (1, 2, 0), (1, 2, 1), (0, 0), (-1, 0), (0, 3), (2, 1)]:
            self.assertIs(is_paper(value), False)

    def test_true_and_false_are_no_marks(self):
        self.assertIs(is_paper((0,)), True)
        self.assertIs(is_paper((False,)), False)
        self.assertIs(is_paper((1, 0)), True)
        for value in [(True, 0), (1, False), (True, False)]:
            self.assertIs(is_paper(value), False)
        self.assertIs(is_sequence((1, 0), (0, 1)), True)
        for value in [(0, True), (False, 1), (False, True), (True,), (False,)]:
            self.assertIs(is_sequence((1, 0), value), False)

    def test_sequences_of_0_to_16_leaves(self):
        for paper in all_papers(6):
            for many in range(17):
                sequence = tuple(leaf % len(paper) for leaf in range(many))
                self.assertIs(is_sequence(paper, sequence), True)
                self.assertIs(is_sequence(paper, list(sequence)), False)
                for wrong in (-1, len(paper), None, True, False, "0", (), (0,), DEEP, DEEP_LIST):
                    for leaf in range(many):
                        self.assertIs(is_sequence(paper, sequence[:leaf] + (wrong,) + sequence[leaf + 1:]), False)
            self.assertIs(is_sequence(paper, (0,) * 17), False)
            self.assertIs(is_sequence(paper, (0,) * 18), False)

    def test_what_is_no_sequence(self):
        for paper in [(0,), (1, 0), PAPER, (0, 1, 2, 3, 4, 5)]:
            for value in wrong_sequences(paper):
                self.assertIs(is_sequence(paper, value), False)

    def test_the_empty_tuple_is_a_sequence_and_no_paper(self):
        self.assertIs(is_sequence((0,), ()), True)
        self.assertIs(is_paper(()), False)

    def test_reflected_is_read_from_the_end_with_counterparts(self):
        for paper in all_papers(3):
            for sequence in all_sequences(paper, 4):
                self.assertEqual(reflected(paper, sequence), mirror(paper, sequence))
        self.assertEqual(reflected(PAPER, ()), ())
        self.assertEqual(reflected((1, 0), (0,) * 16), (1,) * 16)

    def test_reflecting_twice_and_one_behind_another(self):
        for paper in all_papers(3):
            sequences = all_sequences(paper, 3)
            for first in sequences:
                self.assertEqual(reflected(paper, reflected(paper, first)), first)
                for second in sequences:
                    both = reflected(paper, second) + reflected(paper, first)
                    self.assertEqual(reflected(paper, first + second), both)

    def test_own_marks_and_pairs_make_up_the_marks(self):
        for paper in all_papers(6):
            own, pairs = own_marks(paper), mark_pairs(paper)
            self.assertEqual(len(own) + 2 * len(pairs), len(paper))
            self.assertEqual(sorted(own + tuple(mark for pair in pairs for mark in pair)), list(range(len(paper))))
            self.assertEqual((own, pairs), (tuple(sorted(own)), tuple(sorted(pairs))))
            for mark in own:
                self.assertEqual(paper[mark], mark)
            for mark, other in pairs:
                self.assertLess(mark, other)
                self.assertEqual((paper[mark], paper[other]), (other, mark))

    def test_wrong_arguments(self):
        assert_checks(self, own_marks, [PAPER], [("paper", wrong_papers())])
        assert_checks(self, mark_pairs, [PAPER], [("paper", wrong_papers())])
        wrong = [("paper", wrong_papers()), ("sequence", wrong_sequences(PAPER))]
        assert_checks(self, reflected, [PAPER, (0, 1)], wrong)

    def test_judged_values_can_be_of_any_kind(self):
        for value in OTHER_KINDS:
            self.assertIs(is_paper(value), False)
            self.assertIs(is_sequence(PAPER, value), False)


if __name__ == "__main__":
    unittest.main()

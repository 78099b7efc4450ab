import unittest
from itertools import permutations, product
from math import factorial

from helper import (
    OTHER_KINDS, all_papers, all_renamings, all_sequences, assert_checks, mirror, renamed, wrong_integers,
    wrong_papers, wrong_sequences,
)
from quiremarks.alike import accepts_renaming, count_alike, count_renamings, first_alike, nth_renaming, renaming
from quiremarks.errors import BadValue

PAPER = (1, 0, 2)


class RenamingsTest(unittest.TestCase):
    def test_examples(self):
        self.assertEqual((count_renamings(PAPER), nth_renaming(PAPER, 1)), (2, (1, 0, 2)))
        self.assertEqual((count_renamings((1, 0, 3, 2)), nth_renaming((1, 0, 3, 2), 2)), (8, (1, 0, 2, 3)))
        self.assertEqual(count_renamings((0, 1, 2)), 6)

    def test_all_renamings_of_small_papers_in_their_order(self):
        for paper in all_papers(4):
            found = all_renamings(paper)
            self.assertEqual(count_renamings(paper), len(found))
            self.assertEqual([nth_renaming(paper, index) for index in range(len(found))], found)
            self.assertEqual(found[0], tuple(range(len(paper))))
            for index in wrong_integers(0, len(found) - 1):
                with self.assertRaises(BadValue) as caught:
                    nth_renaming(paper, index)
                self.assertEqual(caught.exception.name, "index")

    def test_papers_of_six_marks(self):
        for paper in [(0, 1, 2, 3, 4, 5), (1, 0, 3, 2, 5, 4), (5, 1, 3, 2, 4, 0), (0, 2, 1, 3, 4, 5)]:
            found = all_renamings(paper)
            self.assertEqual(count_renamings(paper), len(found))
            self.assertEqual([nth_renaming(paper, index) for index in range(len(found))], found)

    def test_the_number_follows_point_12(self):
        for paper in all_papers(6):
            own = sum(paper[mark] == mark for mark in range(len(paper)))
            pairs = (len(paper) - own) // 2
            self.assertEqual(count_renamings(paper), factorial(own) * 2 ** pairs * factorial(pairs))


class AlikeTest(unittest.TestCase):
    def test_examples(self):
        self.assertEqual((first_alike(PAPER, (1, 2, 1)), count_alike(PAPER, (2, 2))), ((0, 2, 0), 1))
        self.assertEqual(renaming(PAPER, (0, 0, 2), (1, 1, 2)), (1, 0, 2))
        self.assertIsNone(renaming(PAPER, (0, 2), (2, 0)))
        self.assertIs(accepts_renaming(PAPER, (0,), (1,), (1, 0, 2)), True)
        self.assertIs(accepts_renaming(PAPER, (0,), (2,), (2, 1, 0)), False)

    def test_against_going_through_all_renamings(self):
        for paper in all_papers(4):
            names = all_renamings(paper)
            for sequence in all_sequences(paper, 4 if len(paper) < 4 else 3):
                alike = {renamed(sequence, new) for new in names}
                self.assertEqual(first_alike(paper, sequence), min(alike))
                self.assertEqual(count_alike(paper, sequence), len(alike))
                self.assertEqual(count_renamings(paper) % len(alike), 0)

    def test_papers_of_five_and_six_marks(self):
        for paper in [(1, 0, 3, 2, 5, 4), (0, 1, 2, 3, 4, 5), (3, 1, 5, 0, 4, 2), (0, 4, 2, 3, 1)]:
            names = all_renamings(paper)
            for sequence in [(), (4, 4, 1), (4, 3, 2, 1, 0), (2, 2, 4, 1, 4, 0, 3, 3), (1, 3) * 8, (4, 0, 1, 2) * 4]:
                alike = {renamed(sequence, new) for new in names}
                self.assertEqual(first_alike(paper, sequence), min(alike))
                self.assertEqual(count_alike(paper, sequence), len(alike))
                self.assertEqual(renaming(paper, sequence, min(alike)), self.first_to(names, sequence, min(alike)))

    def first_to(self, names, first, second):
        return min([new for new in names if renamed(first, new) == second], default=None)

    def test_renaming_is_the_first_one_that_leads_there(self):
        for paper in all_papers(4):
            names = all_renamings(paper)
            sequences = all_sequences(paper, 3 if len(paper) < 4 else 2)
            for first, second in product(sequences, repeat=2):
                found = renaming(paper, first, second)
                self.assertEqual(found, self.first_to(names, first, second))
                # Point 15: alike if and only if the first one of those alike is the same.
                self.assertEqual(found is not None, first_alike(paper, first) == first_alike(paper, second))
                mirrored = renaming(paper, mirror(paper, first), mirror(paper, second))
                self.assertEqual(found is not None, mirrored is not None)

    def test_alike_goes_both_ways_and_on(self):
        sequences = all_sequences(PAPER, 2)
        alike = {
            pair for pair in product(sequences, repeat=2) if renaming(PAPER, *pair) is not None
        }
        for one, two in alike:
            self.assertEqual(len(one), len(two))
            self.assertIn((two, one), alike)
            for three in sequences:
                if (two, three) in alike:
                    self.assertIn((one, three), alike)
        for sequence in sequences:
            self.assertEqual(renaming(PAPER, sequence, sequence), (0, 1, 2))

    def test_sequences_of_different_length_are_not_alike(self):
        self.assertIsNone(renaming(PAPER, (0,), (0, 0)))
        self.assertIsNone(renaming(PAPER, (), (0,)))
        self.assertIs(accepts_renaming(PAPER, (0,), (0, 0), (0, 1, 2)), False)
        self.assertIs(accepts_renaming(PAPER, (0, 0), (0,), (0, 1, 2)), False)

    def test_the_judge_takes_just_the_renamings_that_lead_there(self):
        for paper in all_papers(4):
            names = set(all_renamings(paper))
            orders = list(permutations(range(len(paper))))
            sequences = all_sequences(paper, 3 if len(paper) < 4 else 2)
            pairs = [(first, second) for first, second in product(sequences, repeat=2) if len(first) == len(second)]
            for first, second in pairs:
                found = renaming(paper, first, second)
                for order in orders:
                    right = order in names and renamed(first, order) == second
                    self.assertIs(accepts_renaming(paper, first, second, order), right)
                    if right:
                        self.assertIsNotNone(found)
                if found is not None:
                    self.assertIs(accepts_renaming(paper, first, second, found), True)

    def test_the_judge_refuses_values_of_any_other_kind(self):
        others = [
            (), (0,), (0, 1), (0, 1, 2, 3), [0, 1, 2], (False, True, 2), (0, True, 2), (False, 1, 2), (0, 0, 2),
            (0, 1, -1), (0, 1, 3), (0, 1, "2"), (0, 1, None), (0, 1, (2,)), "012", (2, 2, 2), (0, 2, 1), (2, 1, 0),
        ]
        for value in OTHER_KINDS + others:
            self.assertIs(accepts_renaming(PAPER, (), (), value), False)
            self.assertIs(accepts_renaming(PAPER, (0, 1), (0, 1), value), False)
        self.assertIs(accepts_renaming(PAPER, (), (), (0, 1, 2)), True)
        self.assertIs(accepts_renaming((0,), (), (), (False,)), False)
        self.assertIs(accepts_renaming((1, 0), (0,), (1,), (True, False)), False)

    def test_wrong_arguments(self):
        papers, sequences = wrong_papers(), wrong_sequences(PAPER)
        assert_checks(self, count_renamings, [PAPER], [("paper", papers)])
        assert_checks(self, nth_renaming, [PAPER, 0], [("paper", papers), ("index", wrong_integers(0, 1))])
        wrong = [("paper", papers), ("sequence", sequences)]
        assert_checks(self, first_alike, [PAPER, (0, 1)], wrong)
        assert_checks(self, count_alike, [PAPER, (0, 1)], wrong)
        wrong = [("paper", papers), ("first", sequences), ("second", sequences)]
        assert_checks(self, renaming, [PAPER, (0, 1), (1,)], wrong)
        assert_checks(self, accepts_renaming, [PAPER, (0, 1), (1,), (0, 1, 2)], [*wrong, ("value", [])])
        assert_checks(self, accepts_renaming, [PAPER, (0, 1), (1,), None], [*wrong, ("value", [])])


if __name__ == "__main__":
    unittest.main()

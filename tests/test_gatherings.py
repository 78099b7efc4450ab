import unittest
from itertools import product

from helper import (
    DEEP, DEEP_LIST, OTHER_KINDS, all_papers, all_renamings, all_sequences, assert_checks, folds, mirror, renamed,
    renamed_paper, wrong_papers, wrong_sequences,
)
from quiremarks.errors import BadValue, NotPossible, TooLarge
from quiremarks.gatherings import accepts_mismatch, closed, doubled, is_gathering, mismatch, sheets

PAPER, HAIR = (0, 1), (1, 0)
SMALL = [(paper, sequence) for paper in all_papers(3) for sequence in all_sequences(paper, 5)]


def all_mismatches(paper, sequence):
    """Every mismatch, in the words of point 19."""
    many = len(sequence)
    found = {()} if many == 0 else set()
    if many % 2 == 1:
        found.add((many // 2,))
    for leaf in range(many):
        other = many - 1 - leaf
        if leaf < other and paper[sequence[leaf]] != sequence[other]:
            found.add((leaf, other))
    return found


def nearest_closed(paper, sequence):
    """The gathering with the center of point 25."""
    for center in range(1, len(sequence) + 1):
        ahead, behind = sequence[:center], sequence[center:]
        if len(behind) <= center and mirror(paper, ahead)[:len(behind)] == behind:
            return ahead + mirror(paper, ahead)
    return None


class GatheringsTest(unittest.TestCase):
    def test_examples(self):
        self.assertIs(is_gathering(PAPER, (0, 1, 1, 0)), True)
        self.assertIs(is_gathering(HAIR, (0, 1, 0, 1)), True)
        self.assertEqual(sheets(HAIR, (0, 1, 0, 1)), ((0, 3), (1, 2)))
        self.assertEqual(mismatch(HAIR, (0, 0, 1, 0)), (0, 3))
        self.assertEqual((mismatch(PAPER, (0, 1, 0)), mismatch(PAPER, ())), ((1,), ()))
        self.assertIs(accepts_mismatch(PAPER, (0, 1, 0, 1), (1, 2)), True)
        self.assertIs(accepts_mismatch(PAPER, (0, 1, 0, 1), (0, 1)), False)
        self.assertEqual((closed(PAPER, (0, 1, 1)), closed(HAIR, (0,))), ((0, 1, 1, 0), (0, 1)))
        self.assertEqual((doubled(HAIR, (0, 0, 1)), closed(HAIR, (0, 0, 1))), ((0, 0, 1, 0, 1, 1), (0, 0, 1, 1)))

    def test_a_gathering_equals_its_reflection(self):
        for paper, sequence in SMALL:
            self.assertIs(is_gathering(paper, sequence), folds(paper, sequence))
        self.assertIs(is_gathering(PAPER, ()), False)
        self.assertIs(is_gathering(PAPER, (0, 1, 0)), False)
        self.assertIs(is_gathering(HAIR, (0, 1) * 8), True)
        self.assertIs(is_gathering(HAIR, (0, 1) * 7 + (0, 0)), False)

    def test_the_told_mismatch(self):
        for paper, sequence in SMALL:
            found = mismatch(paper, sequence)
            if folds(paper, sequence):
                self.assertIsNone(found)
            elif len(sequence) % 2 == 1:
                self.assertEqual(found, (len(sequence) // 2,))
            else:
                self.assertEqual(found, min(all_mismatches(paper, sequence)))
            if found is not None:
                self.assertIs(accepts_mismatch(paper, sequence, found), True)

    def test_the_judge_of_mismatches(self):
        for paper, sequence in SMALL:
            right = all_mismatches(paper, sequence)
            self.assertEqual(folds(paper, sequence), not right)
            leaves = range(-1, len(sequence) + 2)
            values = [(), *[(leaf,) for leaf in leaves], *product(leaves, repeat=2)]
            for value in values:
                self.assertIs(accepts_mismatch(paper, sequence, value), value in right)
                self.assertIs(accepts_mismatch(paper, sequence, list(value)), False)

    def test_the_judge_refuses_values_of_any_other_kind(self):
        others = [
            0, 1, (False, 3), (False, True), (0, 1, 2), (0, 3, 3), (0, 3, None), [0, 3], ((0, 3),), (0, (3,)), "03",
            ("0", "3"), (0, "3"), (0, None), (0, DEEP), (DEEP, 3), (DEEP_LIST,), (0, 10 ** 30), (-10 ** 30, 10 ** 30),
            (-1, 4), (3, 0), (2, 1), {0: 3}, (0, -1), (-4, -1),
        ]
        for value in OTHER_KINDS + others:
            self.assertIs(accepts_mismatch(HAIR, (0, 0, 0, 0), value), False)
            self.assertIs(accepts_mismatch(HAIR, (0, 0, 0), value), False)
            self.assertIs(accepts_mismatch(HAIR, (), value), False)
        self.assertIs(accepts_mismatch(HAIR, (0, 0, 0), (True,)), False)
        self.assertIs(accepts_mismatch(HAIR, (0,), (False,)), False)
        self.assertIs(accepts_mismatch(HAIR, (0,), (0,)), True)
        self.assertIs(accepts_mismatch(HAIR, (0, 0), (0, True)), False)
        self.assertIs(accepts_mismatch(HAIR, (), []), False)
        # The outer leaves of an odd number can be told, too.
        self.assertIs(accepts_mismatch(HAIR, (0, 1, 0), (0, 2)), True)
        self.assertIs(accepts_mismatch(HAIR, (0, 1, 1), (0, 2)), False)

    def test_sheets_are_the_conjugate_leaves(self):
        for paper, sequence in SMALL:
            if folds(paper, sequence):
                last = len(sequence) - 1
                expected = tuple((leaf, last - leaf) for leaf in range(len(sequence) // 2))
                self.assertEqual(sheets(paper, sequence), expected)
                for leaf, other in expected:
                    self.assertEqual(paper[sequence[leaf]], sequence[other])
            else:
                self.assert_not_possible("gathering", sheets, paper, sequence)

    def assert_not_possible(self, why, function, paper, sequence):
        with self.assertRaises(NotPossible) as caught:
            function(paper, sequence)
        self.assertEqual(caught.exception.why, why)

    def assert_too_large(self, function, paper, sequence):
        with self.assertRaises(TooLarge) as caught:
            function(paper, sequence)
        self.assertEqual(caught.exception.what, "leaves")

    def test_doubled_gives_each_gathering_by_its_first_half(self):
        for paper, sequence in SMALL:
            found = doubled(paper, sequence)
            self.assertEqual(found, sequence + mirror(paper, sequence))
            self.assertEqual(is_gathering(paper, found), sequence != ())
            if folds(paper, sequence):
                self.assertEqual(doubled(paper, sequence[:len(sequence) // 2]), sequence)
        self.assertEqual(doubled(PAPER, ()), ())

    def test_doubled_at_8_and_9_leaves(self):
        self.assertEqual(doubled(HAIR, (0,) * 8), (0,) * 8 + (1,) * 8)
        for many in range(9, 17):
            self.assert_too_large(doubled, HAIR, (0,) * many)

    def test_closed_is_the_shortest_gathering_that_begins_with_the_sequence(self):
        for paper in all_papers(3):
            for sequence in all_sequences(paper, 4, 1):
                found = closed(paper, sequence)
                shortest = [
                    sequence + more for many in range(len(found) - len(sequence) + 1)
                    for more in product(range(len(paper)), repeat=many) if folds(paper, sequence + more)
                ]
                self.assertEqual(shortest, [found])
                self.assertEqual(found, nearest_closed(paper, sequence))
                self.assertLessEqual(len(found), 2 * len(sequence))
                if folds(paper, sequence):
                    self.assertEqual(found, sequence)

    def test_closed_up_to_16_leaves_and_beyond(self):
        seen = set()
        sequences = all_sequences(PAPER, 9, 9)
        sequences += [(0,) * many for many in range(1, 17)] + [(0,) * many + (1,) for many in range(1, 16)]
        sequences += [(0, 1, 1, 0) * 4, (0,) * 7 + (1, 1) + (0,) * 6, (0,) * 7 + (1, 1) + (0,) * 7, (0,) + (1,) * 15]
        for paper in (PAPER, HAIR):
            for sequence in sequences:
                expected = nearest_closed(paper, sequence)
                seen.add(len(expected))
                if len(expected) <= 16:
                    self.assertEqual(closed(paper, sequence), expected)
                else:
                    self.assert_too_large(closed, paper, sequence)
        self.assertTrue({16, 18, 32} <= seen)
        self.assertEqual(closed(HAIR, (0, 1) * 8), (0, 1) * 8)
        self.assertEqual(closed(HAIR, (0,) * 8), (0,) * 8 + (1,) * 8)
        self.assert_too_large(closed, HAIR, (0,) * 9)
        self.assert_too_large(closed, HAIR, (0,) * 16)

    def test_closed_of_no_leaves(self):
        self.assert_not_possible("empty", closed, PAPER, ())
        self.assert_not_possible("gathering", sheets, PAPER, ())

    def test_renamed_marks(self):
        for paper in [(0, 1, 2), (1, 0, 2)]:
            for names in all_renamings((0, 1, 2)):
                new = renamed_paper(paper, names)
                for sequence in all_sequences(paper, 4, 1):
                    there = renamed(sequence, names)
                    self.assertEqual(mismatch(new, there), mismatch(paper, sequence))
                    self.assertEqual(closed(new, there), renamed(closed(paper, sequence), names))

    def test_wrong_arguments(self):
        wrong = [("paper", wrong_papers()), ("sequence", wrong_sequences(HAIR))]
        for function in (is_gathering, mismatch, sheets, doubled, closed):
            assert_checks(self, function, [HAIR, (0, 1)], wrong)
        for value in (None, (0, 1), DEEP):
            assert_checks(self, accepts_mismatch, [HAIR, (0, 0), value], [*wrong, ("value", [])])

    def test_a_wrong_form_comes_before_what_is_not_possible(self):
        for function in (sheets, doubled, closed):
            with self.assertRaises(BadValue) as caught:
                function(HAIR, (0,) * 17)
            self.assertEqual(caught.exception.name, "sequence")
            with self.assertRaises(BadValue) as caught:
                function((), ())
            self.assertEqual(caught.exception.name, "paper")


if __name__ == "__main__":
    unittest.main()

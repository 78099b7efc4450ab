import unittest

from helper import (
    all_papers, all_renamings, all_sequences, assert_checks, folds, mirror, renamed, renamed_paper, wrong_integers,
    wrong_papers, wrong_sequences,
)
from quiremarks.centers import gatherings_within, largest_within, radii, radius

PAPER, HAIR = (0, 1), (1, 0)
LONG = [
    (PAPER, (0,) * 16), (HAIR, (0, 1) * 8), (PAPER, (0, 1, 1, 0) * 4), (HAIR, (0,) * 8 + (1,) * 8),
    ((1, 0, 2), (2, 2, 0, 1) * 4), ((1, 0, 2), (0, 2, 2, 1, 0, 2, 2, 1, 1, 2, 2, 0, 0, 1, 2)),
]
SMALL = [(paper, sequence) for paper in all_papers(3) for sequence in all_sequences(paper, 5)] + LONG


def all_within(paper, sequence):
    """Every gathering within the sequence, from going through all its parts."""
    many = len(sequence)
    return [
        (begin, sheets) for begin in range(many + 1) for sheets in range(1, many + 1)
        if begin + 2 * sheets <= many and folds(paper, sequence[begin:begin + 2 * sheets])
    ]


class CentersTest(unittest.TestCase):
    def test_examples(self):
        self.assertEqual((radii(PAPER, (0, 0, 1, 1)), radius(HAIR, (0, 1, 0, 1), 2)), ((0, 1, 0, 1, 0), 2))
        self.assertEqual(gatherings_within(PAPER, (0, 0, 1, 1)), [(0, 1), (2, 1)])
        self.assertEqual(largest_within(HAIR, (0, 1, 0, 1)), (0, 2))

    def test_radius_against_the_gatherings_with_this_center(self):
        for paper, sequence in SMALL:
            within = all_within(paper, sequence)
            found = radii(paper, sequence)
            self.assertEqual(len(found), len(sequence) + 1)
            for opening, many in enumerate(found):
                here = [sheets for begin, sheets in within if begin + sheets == opening]
                # Point 23: with each gathering, those without its outer sheets have this center, too.
                self.assertEqual(here[::-1], list(range(1, many + 1)))
                self.assertEqual(radius(paper, sequence, opening), many)
            self.assertEqual(sum(found), len(within))

    def test_gatherings_within_and_the_largest(self):
        for paper, sequence in SMALL:
            within = all_within(paper, sequence)
            self.assertEqual(gatherings_within(paper, sequence), within)
            if within:
                most = max(sheets for _, sheets in within)
                first = min(pair for pair in within if pair[1] == most)
                self.assertEqual(largest_within(paper, sequence), first)
            else:
                self.assertIsNone(largest_within(paper, sequence))

    def test_no_leaves_and_one_leaf(self):
        self.assertEqual((radii(PAPER, ()), radii(PAPER, (1,))), ((0,), (0, 0)))
        self.assertEqual((gatherings_within(PAPER, ()), gatherings_within(PAPER, (1,))), ([], []))
        self.assertIsNone(largest_within(PAPER, ()))
        self.assertEqual(radius(PAPER, (), 0), 0)

    def test_a_gathering_has_half_of_its_leaves_as_radius_of_the_middle(self):
        for paper, sequence in SMALL:
            middle = len(sequence) // 2
            if len(sequence) % 2 == 0 and middle > 0:
                self.assertEqual(radius(paper, sequence, middle) == middle, folds(paper, sequence))

    def test_the_reflected_sequence(self):
        for paper, sequence in SMALL:
            self.assertEqual(radii(paper, mirror(paper, sequence)), radii(paper, sequence)[::-1])

    def test_renamed_marks(self):
        for paper in [(0, 1, 2), (1, 0, 2)]:
            for names in all_renamings((0, 1, 2)):
                new = renamed_paper(paper, names)
                for sequence in all_sequences(paper, 4):
                    self.assertEqual(radii(new, renamed(sequence, names)), radii(paper, sequence))

    def test_within_a_longer_sequence(self):
        for paper in (PAPER, HAIR):
            for whole in all_sequences(paper, 6):
                there = radii(paper, whole)
                for begin in range(len(whole) + 1):
                    for end in range(begin, len(whole) + 1):
                        for opening, many in enumerate(radii(paper, whole[begin:end])):
                            self.assertGreaterEqual(there[begin + opening], many)
                            if many < min(opening, end - begin - opening):
                                self.assertEqual(there[begin + opening], many)

    def test_a_returned_list_is_new(self):
        for sequence in [(), (0, 0, 1, 1)]:
            first = gatherings_within(PAPER, sequence)
            kept = list(first)
            second = gatherings_within(PAPER, sequence)
            self.assertIsNot(first, second)
            first.append("more")
            self.assertEqual(second, kept)
            self.assertEqual(gatherings_within(PAPER, sequence), kept)

    def test_wrong_arguments(self):
        wrong = [("paper", wrong_papers()), ("sequence", wrong_sequences(HAIR))]
        for function in (radii, gatherings_within, largest_within):
            assert_checks(self, function, [HAIR, (0, 1)], wrong)
        for sequence in [(), (0,), (0, 1, 0, 1), (0,) * 16]:
            for opening in range(len(sequence) + 1):
                radius(HAIR, sequence, opening)
            openings = ("opening", wrong_integers(0, len(sequence)))
            assert_checks(self, radius, [HAIR, sequence, 0], [*wrong, openings])


if __name__ == "__main__":
    unittest.main()

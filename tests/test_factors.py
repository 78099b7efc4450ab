import unittest
from itertools import product

from helper import (
    all_papers, all_renamings, all_sequences, assert_checks, folds, is_collatable, mirror, renamed, renamed_paper,
    wrong_papers, wrong_sequences,
)
from quiremarks.factors import appended, closing_mark, completion, ends, prepended, split

PAPER = (1, 0, 2)
SMALL = [(paper, sequence) for paper in all_papers(3) for sequence in all_sequences(paper, 5)]


def plain_split(paper, sequence):
    """Factors and remainder, in the words of point 7."""
    for many in range(1, len(sequence) + 1):
        if folds(paper, sequence[:many]):
            factors, rest = plain_split(paper, sequence[many:])
            return (sequence[:many], *factors), rest
    return (), sequence


def shortest_more(paper, sequence, ahead):
    """Every sequence with the fewest leaves that makes this one collatable, put ahead of it or behind it."""
    for many in range(len(sequence) + 1):
        found = [
            more for more in product(range(len(paper)), repeat=many)
            if is_collatable(paper, more + sequence if ahead else sequence + more)
        ]
        if found:
            return found
    return []


class FactorsTest(unittest.TestCase):
    def test_examples(self):
        self.assertEqual(split(PAPER, (0, 1, 2, 0, 2, 1)), (((0, 1),), (2, 0, 2, 1)))
        self.assertEqual(ends(PAPER, (0, 1, 2, 0, 2, 1)), (2,))
        self.assertEqual(split(PAPER, (0, 0, 1, 1, 0, 1)), (((0, 0, 1, 1), (0, 1)), ()))
        self.assertEqual(closing_mark(PAPER, (0, 0, 1)), 1)
        self.assertIsNone(closing_mark(PAPER, (0, 0, 2)))
        self.assertEqual((appended(PAPER, (0, 0, 1)), prepended(PAPER, (0, 0, 1))), ((1,), (1,)))
        self.assertEqual((appended(PAPER, (0, 0, 2)), appended(PAPER, (1, 2, 2))), ((2, 1, 1), (0,)))
        self.assertEqual(completion((1, 0, 2, 3), (0, 2, 2, 3, 3)), (1, (1,), ()))
        self.assertEqual(completion(PAPER, (2, 0)), (0, (), (1, 2)))

    def test_split_and_ends(self):
        for paper, sequence in SMALL:
            factors, rest = split(paper, sequence)
            self.assertEqual((factors, rest), plain_split(paper, sequence))
            self.assertEqual(ends(paper, sequence), tuple(
                sum(len(factor) for factor in factors[:many]) for many in range(1, len(factors) + 1)
            ))
            self.assertEqual(rest == (), is_collatable(paper, sequence))
            for factor in factors:
                # Point 39: a factor has no collation but the one of itself alone.
                self.assertTrue(folds(paper, factor))
                self.assertFalse(any(
                    is_collatable(paper, factor[:many]) and is_collatable(paper, factor[many:])
                    for many in range(1, len(factor))
                ))

    def test_the_empty_sequence_and_long_ones(self):
        self.assertEqual((split(PAPER, ()), ends(PAPER, ())), (((), ()), ()))
        self.assertEqual(split(PAPER, (2,) * 16), (((2, 2),) * 8, ()))
        self.assertEqual(ends(PAPER, (2,) * 15), (2, 4, 6, 8, 10, 12, 14))
        self.assertEqual(split(PAPER, (0,) * 16), ((), (0,) * 16))
        self.assertEqual(split(PAPER, (0,) * 8 + (1,) * 8), (((0,) * 8 + (1,) * 8,), ()))
        self.assertEqual((appended(PAPER, ()), prepended(PAPER, ())), ((), ()))
        self.assertEqual((appended(PAPER, (0,) * 16), prepended(PAPER, (0,) * 16)), ((1,) * 16, (1,) * 16))
        self.assertEqual(completion(PAPER, ()), (0, (), ()))
        self.assertEqual(completion(PAPER, (0,) * 16), (0, (), (1,) * 16))

    def test_further_leaves_leave_the_factors_as_they_are(self):
        for paper, sequence in SMALL:
            factors, rest = split(paper, sequence)
            for mark in range(len(paper)):
                more, left = split(paper, sequence + (mark,))
                if folds(paper, rest + (mark,)):
                    self.assertEqual((more, left), (factors + (rest + (mark,),), ()))
                else:
                    self.assertEqual((more, left), (factors, rest + (mark,)))

    def test_the_closing_mark_finishes_a_factor(self):
        for paper, sequence in SMALL:
            factors, _ = split(paper, sequence)
            closing = [
                mark for mark in range(len(paper)) if len(split(paper, sequence + (mark,))[0]) > len(factors)
            ]
            self.assertLessEqual(len(closing), 1)
            self.assertEqual(closing_mark(paper, sequence), closing[0] if closing else None)

    def test_the_closing_mark_at_15_and_16_leaves(self):
        self.assertEqual(closing_mark(PAPER, (0,) * 8 + (1,) * 7), 1)
        self.assertEqual(closing_mark(PAPER, (2,) * 15), 2)
        self.assertIsNone(closing_mark(PAPER, (0,) * 8 + (1,) * 8))
        self.assertIsNone(closing_mark(PAPER, (0,) * 16))
        self.assertIsNone(closing_mark(PAPER, ()))

    def test_collatable_with_its_reflection_and_by_parts(self):
        for paper, sequence in SMALL:
            factors, rest = split(paper, sequence)
            back, left = split(paper, mirror(paper, sequence))
            self.assertEqual(rest == (), left == ())
            if rest == ():
                self.assertEqual(back, factors[::-1])
            for opening in range(len(sequence) + 1):
                if split(paper, sequence[:opening])[1] == ():
                    self.assertEqual(split(paper, sequence[opening:])[1] == (), rest == ())

    def test_appended_and_prepended_are_the_only_shortest_ones(self):
        for paper in all_papers(3):
            for sequence in all_sequences(paper, 4):
                self.assertEqual(shortest_more(paper, sequence, False), [appended(paper, sequence)])
                self.assertEqual(shortest_more(paper, sequence, True), [prepended(paper, sequence)])

    def test_appended_to_longer_sequences(self):
        for paper in [(0, 1), (1, 0)]:
            for sequence in all_sequences(paper, 7, 5):
                self.assertEqual(shortest_more(paper, sequence, False), [appended(paper, sequence)])
                mirrored = mirror(paper, appended(paper, mirror(paper, sequence)))
                self.assertEqual(prepended(paper, sequence), mirrored)

    def test_completion_has_the_fewest_leaves_at_the_least_opening(self):
        for paper in all_papers(3):
            marks = range(len(paper))
            for sequence in all_sequences(paper, 3 if len(paper) == 3 else 4):
                told = completion(paper, sequence)
                fewest = len(told[1]) + len(told[2])
                found = [
                    (opening, ahead, behind) for opening in range(len(sequence) + 1)
                    for many in range(fewest + 1) for part in range(many + 1)
                    for ahead in product(marks, repeat=part) if is_collatable(paper, ahead + sequence[:opening])
                    for behind in product(marks, repeat=many - part)
                    if is_collatable(paper, sequence[opening:] + behind)
                ]
                self.assertEqual({len(ahead) + len(behind) for _, ahead, behind in found}, {fewest})
                self.assertEqual(min(found), told)
                openings = [opening for opening, _, _ in found]
                self.assertEqual(len(openings), len(set(openings)))

    def test_renamed_marks(self):
        for paper in [(0, 1, 2), (1, 0, 2)]:
            for names in all_renamings((0, 1, 2)):
                new = renamed_paper(paper, names)
                for sequence in all_sequences(paper, 4):
                    there = renamed(sequence, names)
                    factors, rest = split(paper, sequence)
                    expected = tuple(renamed(factor, names) for factor in factors), renamed(rest, names)
                    self.assertEqual(split(new, there), expected)
                    self.assertEqual(ends(new, there), ends(paper, sequence))

    def test_wrong_arguments(self):
        wrong = [("paper", wrong_papers()), ("sequence", wrong_sequences(PAPER))]
        for function in (split, ends, closing_mark, appended, prepended, completion):
            assert_checks(self, function, [PAPER, (0, 1, 2)], wrong)


if __name__ == "__main__":
    unittest.main()

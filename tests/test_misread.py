import unittest
from itertools import product

from helper import (
    all_collations, all_papers, all_renamings, all_sequences, assert_bad, assert_checks, assert_not_possible,
    assert_too_large, compositions, is_collatable, mirror, renamed, renamed_paper, wrong_integers, wrong_papers, wrong_sequences,
)
from quiremarks.misread import doubtful, fewest_misread, nearest, possible_marks, told_way, ways

PAPER = (1, 0, 2)
SMALL = [(paper, sequence) for paper in all_papers(2) for many in (0, 2, 4, 6) for sequence in all_sequences(paper, many, many)]
SMALL += [(PAPER, sequence) for sequence in all_sequences(PAPER, 4, 4)]
SMALL += [(PAPER, sequence) for sequence in all_sequences(PAPER, 6, 6)[::17]]
LONG = [
    (PAPER, (0, 1, 2) * 4), ((1, 0), (0, 1) * 6), ((1, 0), (0,) * 12), ((0, 1), (0, 1, 1) * 4), (PAPER, (0, 1, 2, 2) * 3),
    (PAPER, (0, 0, 1, 2, 2, 1, 0, 0, 2, 1, 1, 2)), ((0, 1, 2, 3, 4, 5), (0, 1, 2, 3, 4, 5) * 2), ((0,), (0,) * 12),
    (PAPER, (0, 1, 1, 0, 0, 2, 2, 1, 0, 1)), (PAPER, (2, 2, 0, 1, 2, 0, 1, 2)), ((1, 0, 3, 2), (0, 2, 1, 3, 3, 1, 0, 2)),
]
TOO_LONG = [(0, 1) * 7, (2,) * 14, (0, 1) * 8, (2,) * 16]


def mismatches(paper, sequence, way):
    """The mismatches of all intervals of a way."""
    found, begin = [], 0
    for sheets in way:
        leaves = list(range(begin, begin + 2 * sheets))
        while leaves:
            leaf, other = leaves.pop(0), leaves.pop()
            if paper[sequence[leaf]] != sequence[other]:
                found.append((leaf, other))
        begin += 2 * sheets
    return found


def distance(sequence, other):
    return sum(mark != new for mark, new in zip(sequence, other))


def plain_nearest(paper, sequence):
    """The nearest sequences, among all sequences of the paper."""
    found = [leaves for leaves in all_sequences(paper, len(sequence), len(sequence)) if is_collatable(paper, leaves)]
    least = min(distance(sequence, leaves) for leaves in found)
    return least, [leaves for leaves in found if distance(sequence, leaves) == least]


def exchanged(paper, sequence, way):
    """What comes from a way by exchanging one of the two marks at each mismatch."""
    pairs = mismatches(paper, sequence, way)
    for choice in product((0, 1), repeat=len(pairs)):
        new = list(sequence)
        for pair, side in zip(pairs, choice):
            new[pair[side]] = paper[sequence[pair[1 - side]]]
        yield tuple(new)


class MisreadTest(unittest.TestCase):
    def test_examples(self):
        self.assertEqual((fewest_misread(PAPER, (0, 0)), nearest(PAPER, (0, 0))), (1, [(0, 1), (1, 0)]))
        self.assertEqual((doubtful(PAPER, (0, 0)), fewest_misread(PAPER, (0, 1, 0, 1))), ((0, 1), 0))
        self.assertEqual((told_way(PAPER, (0, 0, 1, 0)), ways(PAPER, (0, 0, 1, 0))), ((1, 1), [(1, 1), (2,)]))
        self.assertEqual(nearest(PAPER, (0, 0, 1, 0)), [(0, 0, 1, 1), (0, 1, 1, 0), (1, 0, 1, 0)])
        self.assertEqual(doubtful(PAPER, (0, 0, 1, 0)), (0, 1, 3))
        self.assertEqual(possible_marks(PAPER, (0, 0, 1, 0), 0), (0, 1))
        self.assertEqual(possible_marks(PAPER, (0, 0, 1, 0), 2), (1,))
        self.assertEqual(nearest(PAPER, ()), [()])

    def test_examples_of_point_100(self):
        self.assertEqual(fewest_misread(PAPER, (0, 0, 1, 0)), 1)
        self.assertNotIn(2, doubtful(PAPER, (0, 0, 1, 0)))

    def test_fewest_misread_and_nearest_against_all_sequences_of_the_paper(self):
        for paper, sequence in SMALL:
            least, found = plain_nearest(paper, sequence)
            self.assertEqual(fewest_misread(paper, sequence), least)
            self.assertEqual(nearest(paper, sequence), found)
            collations = sorted({row for leaves in found for row in all_collations(paper, leaves)})
            self.assertEqual(ways(paper, sequence), collations)

    def test_ways_against_all_ways(self):
        for paper, sequence in SMALL + LONG:
            counts = {way: len(mismatches(paper, sequence, way)) for way in compositions(len(sequence) // 2)}
            least = min(counts.values())
            best = [way for way, many in counts.items() if many == least]
            self.assertEqual(fewest_misread(paper, sequence), least)
            self.assertEqual(ways(paper, sequence), best)
            self.assertEqual(told_way(paper, sequence), best[0])
            found = {leaves for way in best for leaves in exchanged(paper, sequence, way)}
            self.assertEqual(nearest(paper, sequence), sorted(found))

    def test_a_new_list_each_time(self):
        for function in (ways, nearest):
            for sequence in [(), (0, 0, 1, 0), (0, 1)]:
                first = function(PAPER, sequence)
                self.assertIs(type(first), list)
                kept = list(first)
                first.append(None)
                first[0] = None
                self.assertEqual(function(PAPER, sequence), kept)
        self.assertIs(type(told_way(PAPER, (0, 0))), tuple)

    def test_doubtful_leaves_and_possible_marks(self):
        for paper, sequence in SMALL + LONG:
            found = nearest(paper, sequence)
            leaves = range(len(sequence))
            marks = [tuple(sorted({row[leaf] for row in found})) for leaf in leaves]
            self.assertEqual([possible_marks(paper, sequence, leaf) for leaf in leaves], marks)
            self.assertEqual(doubtful(paper, sequence), tuple(leaf for leaf in leaves if len(marks[leaf]) > 1))
            for leaf in leaves:
                self.assertIn(sequence[leaf], marks[leaf])

    def test_another_nearest_sequence_has_the_mark_that_was_read(self):
        for paper, sequence in SMALL + LONG:
            found = nearest(paper, sequence)[:100]
            known = set(nearest(paper, sequence))
            for row in found:
                for leaf in range(len(sequence)):
                    if row[leaf] != sequence[leaf]:
                        back = row[:leaf] + (sequence[leaf],) + row[leaf + 1:]
                        self.assertTrue(any(
                            back[:at] + (mark,) + back[at + 1:] in known
                            for at in range(len(sequence)) if at != leaf and row[at] == sequence[at]
                            for mark in range(len(paper)) if mark != sequence[at]
                        ))

    def test_one_mark_exchanged(self):
        for paper, sequence in SMALL[::3] + LONG[:8:2]:
            least = fewest_misread(paper, sequence)
            for leaf in range(len(sequence)):
                marks = possible_marks(paper, sequence, leaf)
                for mark in range(len(paper)):
                    if mark != sequence[leaf]:
                        there = fewest_misread(paper, sequence[:leaf] + (mark,) + sequence[leaf + 1:])
                        self.assertLessEqual(abs(there - least), 1)
                        self.assertEqual(there == least - 1, mark in marks)

    def test_collatable_sequences(self):
        for paper, sequence in SMALL + LONG:
            collatable = is_collatable(paper, sequence)
            self.assertEqual(fewest_misread(paper, sequence) == 0, collatable)
            if collatable:
                self.assertEqual((nearest(paper, sequence), doubtful(paper, sequence)), ([sequence], ()))
                self.assertEqual(ways(paper, sequence), all_collations(paper, sequence))
                for leaf in range(len(sequence)):
                    for mark in range(len(paper)):
                        other = sequence[:leaf] + (mark,) + sequence[leaf + 1:]
                        self.assertEqual(is_collatable(paper, other), mark == sequence[leaf])

    def test_the_reflected_sequence(self):
        for paper, sequence in SMALL + LONG:
            back = mirror(paper, sequence)
            self.assertEqual(fewest_misread(paper, back), fewest_misread(paper, sequence))
            self.assertEqual(ways(paper, back), sorted(way[::-1] for way in ways(paper, sequence)))
            self.assertEqual(nearest(paper, back), sorted(mirror(paper, row) for row in nearest(paper, sequence)))

    def test_renamed_marks(self):
        for names in all_renamings((0, 1, 2)):
            new = renamed_paper(PAPER, names)
            for paper, sequence in SMALL + LONG:
                if paper == PAPER:
                    there = renamed(sequence, names)
                    self.assertEqual(ways(new, there), ways(paper, sequence))
                    self.assertEqual(doubtful(new, there), doubtful(paper, sequence))
                    turned = sorted(renamed(row, names) for row in nearest(paper, sequence))
                    self.assertEqual(nearest(new, there), turned)

    def test_twelve_leaves(self):
        pair = (1, 0)
        self.assertEqual((fewest_misread(pair, (0,) * 12), told_way(pair, (0,) * 12)), (6, (1,) * 6))
        self.assertEqual(ways(pair, (0,) * 12), compositions(6))
        self.assertEqual(doubtful(pair, (0,) * 12), tuple(range(12)))
        every = [row for row in all_sequences(pair, 12, 12) if sum(row) == 6 and is_collatable(pair, row)]
        self.assertEqual(nearest(pair, (0,) * 12), every)
        own = (0, 1, 2, 3, 4, 5)
        self.assertEqual(fewest_misread(own, own + own[::-1]), 0)
        self.assertEqual(fewest_misread(own, own + (5, 4, 3, 2, 1, 1)), 1)
        inner = (2, 3, 4, 5, 5, 4, 3, 2)
        expected = [(0, 0, *inner, 1, 1), (0, 1, *inner, 1, 0), (1, 1, *inner, 1, 1)]
        self.assertEqual(nearest(own, own + (5, 4, 3, 2, 1, 1)), expected)

    def test_odd_and_too_many_leaves(self):
        for many in range(1, 16, 2):
            for function in (fewest_misread, told_way, ways, nearest, doubtful):
                assert_not_possible(self, "odd", function, [PAPER, (2,) * many])
            assert_not_possible(self, "odd", possible_marks, [PAPER, (2,) * many, many - 1])
            assert_bad(self, "leaf", possible_marks, [PAPER, (2,) * many, many])
        for sequence in TOO_LONG:
            for function in (fewest_misread, told_way, ways, nearest, doubtful):
                assert_too_large(self, "leaves", function, [PAPER, sequence])
            assert_too_large(self, "leaves", possible_marks, [PAPER, sequence, len(sequence) - 1])
            assert_bad(self, "leaf", possible_marks, [PAPER, sequence, len(sequence)])
        self.assertEqual(fewest_misread(PAPER, (2,) * 12), 0)

    def test_wrong_arguments(self):
        wrong = [("paper", wrong_papers()), ("sequence", wrong_sequences(PAPER))]
        for good in [(0, 0, 1, 0), (2,) * 12]:
            for function in (fewest_misread, told_way, ways, nearest, doubtful):
                assert_checks(self, function, [PAPER, good], wrong)
            leaves = ("leaf", wrong_integers(0, len(good) - 1))
            assert_checks(self, possible_marks, [PAPER, good, len(good) - 1], [*wrong, leaves])
        assert_bad(self, "leaf", possible_marks, [PAPER, (), 0])
        for sequence in [(0,) * 3, (0,) * 13, (0,) * 14]:
            assert_bad(self, "paper", fewest_misread, [(), sequence])
            assert_bad(self, "sequence", ways, [(0,), sequence + (1,)])


if __name__ == "__main__":
    unittest.main()

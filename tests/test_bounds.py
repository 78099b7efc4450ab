import unittest
from itertools import product

from helper import (
    DEEP, DEEP_LIST, OTHER_KINDS, Anything, all_papers, all_sequences, assert_bad, assert_checks, assert_judge,
    assert_not_possible, assert_too_large, compositions, is_collatable, variants, wrong_integers, wrong_papers,
    wrong_sequences,
)
from quiremarks.bounds import accepts_misread, misread_evidence
from quiremarks.misread import fewest_misread

PAPER = (1, 0, 2)
SMALL = [
    (paper, sequence) for paper in all_papers(2) for many in (0, 2, 4, 6) for sequence in all_sequences(paper, many, many)
]
SMALL += [(PAPER, sequence) for sequence in all_sequences(PAPER, 4, 4)]
LONG = [
    (PAPER, (0, 1, 2) * 4), ((1, 0), (0, 1) * 6), ((1, 0), (0,) * 12), ((0, 1), (0, 1, 1) * 4), ((0,), (0,) * 12),
    (PAPER, (0, 0, 1, 2, 2, 1, 0, 0, 2, 1, 1, 2)), ((0, 1, 2, 3, 4, 5), (0, 1, 2, 3, 4, 5) * 2),
    (PAPER, (0, 1, 1, 0, 0, 2, 2, 1, 0, 1)), (PAPER, (2, 2, 0, 1, 2, 0, 1, 2)), (PAPER, (0, 0, 1, 0, 2, 2, 2, 0)),
]


def mismatches(paper, leaves):
    """How many pairs of leaves keep these from being a gathering, if their number is even."""
    half = len(leaves) // 2
    return sum(paper[mark] != other for mark, other in zip(leaves[:half], leaves[::-1]))


def of_way(paper, sequence, way):
    """The mismatches of all intervals of a way."""
    total, begin = 0, 0
    for sheets in way:
        total += mismatches(paper, sequence[begin:begin + 2 * sheets])
        begin += 2 * sheets
    return total


def fewest(paper, sequence):
    return min(of_way(paper, sequence, way) for way in compositions(len(sequence) // 2))


def is_right_table(paper, sequence, many, table):
    """Whether the table is one of point 94 for a way with so many mismatches."""
    if table[0] != 0 or table[-1] != many:
        return False
    return all(
        table[later] <= table[earlier] + mismatches(paper, sequence[2 * earlier:2 * later])
        for later in range(len(table)) for earlier in range(later)
    )


def all_evidence(paper, sequence, many):
    """All evidence that the fewest misread are so many, in the words of point 94."""
    half = len(sequence) // 2
    tables = [
        table for table in product(range(len(sequence) + 1), repeat=half + 1)
        if is_right_table(paper, sequence, many, table)
    ]
    ways = [way for way in compositions(half) if of_way(paper, sequence, way) == many]
    return [(way, table) for way in ways for table in tables]


class BoundsTest(unittest.TestCase):
    def test_examples(self):
        self.assertEqual(misread_evidence(PAPER, (0, 0, 1, 0)), ((1, 1), (0, 1, 1)))
        self.assertIs(accepts_misread(PAPER, (0, 0, 1, 0), 1, ((2,), (0, 1, 1))), True)
        self.assertIs(accepts_misread(PAPER, (0, 0, 1, 0), 1, ((2,), (0, 0, 1))), False)
        self.assertIs(accepts_misread(PAPER, (0, 0, 1, 0), 0, ((2,), (0, 0, 0))), False)
        self.assertIs(accepts_misread(PAPER, (0, 0), 1, ((1,), (0, 2))), False)

    def test_the_told_way_and_the_fewest_misread_of_all_beginnings(self):
        for paper, sequence in SMALL + LONG:
            ways = compositions(len(sequence) // 2)
            told = min(ways, key=lambda way: (of_way(paper, sequence, way), way))
            table = tuple(fewest(paper, sequence[:many]) for many in range(0, len(sequence) + 1, 2))
            self.assertEqual(misread_evidence(paper, sequence), (told, table))
            self.assertEqual(table[-1], fewest_misread(paper, sequence))

    def test_told_evidence_is_accepted_for_its_number_alone(self):
        for paper, sequence in SMALL + LONG:
            told = misread_evidence(paper, sequence)
            taken = [many for many in range(13) if accepts_misread(paper, sequence, many, told)]
            self.assertEqual(taken, [fewest(paper, sequence)])

    def test_just_the_evidence_is_accepted_for_each_number(self):
        for paper, sequence in SMALL[::3]:
            if len(sequence) <= 4:
                half = len(sequence) // 2
                tables = list(product(range(-1, 4), repeat=half + 1)) + [(0,) * half, (0,) * (half + 2)]
                values = [(way, table) for rest in range(4) for way in compositions(rest) for table in tables]
                for many in range(13):
                    right = all_evidence(paper, sequence, many)
                    self.assertEqual(right != [], many == fewest(paper, sequence))
                    assert_judge(self, accepts_misread, [paper, sequence, many], right, values + right)

    def test_whatever_is_accepted_is_so(self):
        # The least distance to a collatable sequence, without a way and without a table.
        for paper, sequence in SMALL[::5]:
            found = [row for row in all_sequences(paper, len(sequence), len(sequence)) if is_collatable(paper, row)]
            least = min(sum(mark != new for mark, new in zip(sequence, row)) for row in found)
            for many in range(len(sequence) + 1):
                self.assertEqual(all_evidence(paper, sequence, many) != [], many == least)
            for way in compositions(len(sequence) // 2):
                value = (way, misread_evidence(paper, sequence)[1])
                self.assertIs(accepts_misread(paper, sequence, least, value), of_way(paper, sequence, way) == least)

    def test_evidence_that_is_changed_at_one_place(self):
        for paper, sequence in [(PAPER, (0, 0, 1, 0)), (PAPER, ()), ((1, 0), (0, 0)), (PAPER, (0, 2, 1, 2, 0, 1))]:
            many = fewest(paper, sequence)
            right = all_evidence(paper, sequence, many)
            for evidence in right:
                for number in (many, many + 1, max(0, many - 1)):
                    known = right if number == many else []
                    assert_judge(self, accepts_misread, [paper, sequence, number], known, variants(evidence))

    def test_each_number_of_a_long_table_less_or_greater(self):
        for paper, sequence in LONG:
            way, table = misread_evidence(paper, sequence)
            many = table[-1]
            for place, number in enumerate(table):
                for other in (number - 1, number + 1, number + 100, -1, 10 ** 30, -10 ** 30):
                    changed = (*table[:place], other, *table[place + 1:])
                    right = min(changed) >= 0 and is_right_table(paper, sequence, many, changed)
                    self.assertIs(accepts_misread(paper, sequence, many, (way, changed)), right)
                for other in (bool(number), str(number), None, (number,), [number], DEEP, DEEP_LIST, Anything()):
                    changed = (*table[:place], other, *table[place + 1:])
                    self.assertIs(accepts_misread(paper, sequence, many, (way, changed)), False)
                shorter, longer = table[:place] + table[place + 1:], table[:place] + table[place:place + 1] + table[place:]
                self.assertIs(accepts_misread(paper, sequence, many, (way, shorter)), False)
                self.assertIs(accepts_misread(paper, sequence, many, (way, longer)), False)

    def test_other_ways_with_the_told_table(self):
        for paper, sequence in LONG:
            _, table = misread_evidence(paper, sequence)
            ways = [way for sheets in range(8) for way in compositions(sheets)]
            for way in ways:
                right = 2 * sum(way) == len(sequence) and of_way(paper, sequence, way) == table[-1]
                self.assertIs(accepts_misread(paper, sequence, table[-1], (way, table)), right)
                self.assertIs(accepts_misread(paper, sequence, table[-1], (list(way), table)), False)
                self.assertIs(accepts_misread(paper, sequence, table[-1], (way, list(table))), False)
                self.assertIs(accepts_misread(paper, sequence, table[-1], [way, table]), False)

    def test_ways_with_numbers_that_only_seem_to_fit(self):
        for sequence in [(2,) * 4, (2,) * 2]:
            half = len(sequence) // 2
            table = (0,) * (half + 1)
            for way in [
                (True,) * half, (half, 0), (0, half), (half + 1, -1), (-1, half + 1), (half, half), (False, half), (),
                ("1",) * half, (None,), ((half,),), (10 ** 30,), (-10 ** 30,), (1,) * 100000, half, str(half), DEEP, DEEP_LIST,
            ]:
                self.assertIs(accepts_misread(PAPER, sequence, 0, (way, table)), False)

    def test_judged_values_can_be_of_any_kind(self):
        others = [
            ((1, 1),), ((1, 1), (0, 1, 1), ()), ((0, 1, 1), (1, 1)), [(1, 1), (0, 1, 1)], (None, None), (DEEP, DEEP),
            (DEEP, (0, 1, 1)), ((1, 1), DEEP), ((1, 1), DEEP_LIST), ((1, 1), (0, 1, DEEP)), ((1, DEEP), (0, 1, 1)),
            ((1, 1), (False, 1, 1)), ((1, 1), (0, True, 1)), ((True, 1), (0, 1, 1)), "ab", {(1, 1): (0, 1, 1)},
            (Anything(), Anything()), (Anything(), (0, 1, 1)), ((1, 1), Anything()), ((1, 1), (0, 1, Anything())),
        ]
        for value in OTHER_KINDS + others:
            self.assertIs(accepts_misread(PAPER, (0, 0, 1, 0), 1, value), False)
            self.assertIs(accepts_misread(PAPER, (), 0, value), False)

    def test_the_sequence_without_leaves(self):
        self.assertEqual(misread_evidence(PAPER, ()), ((), (0,)))
        self.assertIs(accepts_misread(PAPER, (), 0, ((), (0,))), True)
        for many, value in [(1, ((), (0,))), (0, ((), (1,))), (0, ((), ())), (0, ((1,), (0,))), (1, ((), (1,)))]:
            self.assertIs(accepts_misread(PAPER, (), many, value), False)

    def test_wrong_arguments(self):
        wrong = [("paper", wrong_papers()), ("sequence", wrong_sequences(PAPER))]
        judged = [*wrong, ("many", wrong_integers(0, 12)), ("value", [])]
        for good in [(), (0, 0, 1, 0), (2,) * 12]:
            assert_checks(self, misread_evidence, [PAPER, good], wrong)
            for many in (0, 12):
                for value in (None, ((1, 1), (0, 1, 1)), DEEP):
                    assert_checks(self, accepts_misread, [PAPER, good, many, value], judged)

    def test_odd_and_too_many_leaves(self):
        value = ((1, 1), (0, 1, 1))
        for many in range(1, 16, 2):
            assert_not_possible(self, "odd", misread_evidence, [PAPER, (2,) * many])
            assert_not_possible(self, "odd", accepts_misread, [PAPER, (2,) * many, 12, value])
        for many in (14, 16):
            for sequence in [(2,) * many, (0, 1) * (many // 2)]:
                assert_too_large(self, "leaves", misread_evidence, [PAPER, sequence])
                assert_too_large(self, "leaves", accepts_misread, [PAPER, sequence, 0, value])
        for sequence in [(2,) * 3, (2,) * 13, (2,) * 14, (2,) * 16]:
            for wrong in wrong_integers(0, 12):
                assert_bad(self, "many", accepts_misread, [PAPER, sequence, wrong, value])
            assert_bad(self, "sequence", accepts_misread, [PAPER, sequence + (3,), 13, value])
            assert_bad(self, "paper", accepts_misread, [(), sequence, 13, value])
            assert_bad(self, "sequence", misread_evidence, [(0,), sequence])
        self.assertEqual(misread_evidence(PAPER, (2,) * 12), ((1,) * 6, (0,) * 7))
        self.assertIs(accepts_misread(PAPER, (2,) * 12, 0, ((6,), (0,) * 7)), True)


if __name__ == "__main__":
    unittest.main()

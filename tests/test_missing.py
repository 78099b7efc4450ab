import unittest
from itertools import combinations, product

from helper import (
    DEEP, DEEP_LIST, OTHER_KINDS, all_collations, all_papers, all_renamings, all_sequences, all_valid_pairs, assert_bad,
    assert_checks, assert_judge, is_collatable, mirror, renamed, renamed_paper, variants, wrong_integers, wrong_papers,
    wrong_sequences,
)
from quiremarks.missing import (
    accepts_pairs, always_paired, fewest_missing, never_paired, paired_with, restored, told_pairs,
)

PAPER = (1, 0, 2)
SMALL = [(paper, sequence) for paper in all_papers(2) for sequence in all_sequences(paper, 6)]
SMALL += [(PAPER, sequence) for sequence in all_sequences(PAPER, 7)[::9]]
SMALL += [((0,), (0,) * many) for many in range(8)] + [((1, 0), (0, 1, 0, 1, 0, 1, 0)), ((0, 1), (0, 1, 0, 0, 1, 0, 1))]
CASES = [(paper, sequence, all_valid_pairs(paper, sequence)) for paper, sequence in dict.fromkeys(SMALL)]
LONG = [
    (PAPER, (0, 1, 2) * 4), (PAPER, (2,) * 12), ((0,), (0,) * 12), ((1, 0), (0, 1) * 6), ((1, 0), (0,) * 12),
    ((0, 1), (0, 1, 1) * 4), ((1, 0, 3, 2), (0, 2, 1, 3, 3, 1) * 2), ((0, 1, 2, 3, 4, 5), (0, 1, 2, 3, 4, 5) * 2),
    (PAPER, (0, 0, 1, 2, 2, 1, 0, 0, 2, 1, 1, 2)), ((0, 1), (0, 0, 1, 0, 1, 1, 1, 0, 0, 1, 0)),
]


def greatest(valid):
    most = max(len(pairs) for pairs in valid)
    return [pairs for pairs in valid if len(pairs) == most]


def is_valid(pairs):
    """Whether pairs of counterparts are valid, by each two and each three of them, in the words of point 78."""
    def inside(pair, outer):
        return pair[0] > outer[0] and pair[1] < outer[1]

    def apart(pair, other):
        return max(pair) < min(other) or max(other) < min(pair)

    if list(pairs) != sorted(set(pairs)):
        return False
    for pair, other in combinations(pairs, 2):
        if not (inside(pair, other) or inside(other, pair) or apart(pair, other)):
            return False
    return not any(
        inside(pair, outer) and inside(other, outer) and apart(pair, other)
        for outer in pairs for pair, other in combinations(pairs, 2)
    )


def is_left_of(leaves, whole):
    """Whether the leaves come from the whole by leaving out leaves."""
    places = iter(whole)
    return all(mark in places for mark in leaves)


def without(sequence, leaf):
    return sequence[:leaf] + sequence[leaf + 1:]


class MissingTest(unittest.TestCase):
    def test_examples(self):
        self.assertEqual((fewest_missing(PAPER, (0, 1, 1)), told_pairs(PAPER, (0, 1, 1))), (1, ((0, 1),)))
        self.assertEqual(paired_with(PAPER, (0, 1, 1), 0), (1, 2))
        self.assertEqual((always_paired(PAPER, (0, 1, 1)), never_paired(PAPER, (0, 2, 1))), ((0,), (1,)))
        self.assertEqual(restored(PAPER, (0, 1, 1), ((0, 1),)), ((0, 1, 1, 0), (1, 1)))
        self.assertEqual(restored(PAPER, (0, 1, 1), ((0, 2),)), ((0, 1, 0, 1), (2,)))
        told = restored(PAPER, (0, 2, 0, 1, 0, 1), ((0, 5), (2, 3)))
        self.assertEqual(told, ((0, 2, 1, 0, 1, 0, 2, 1), (4,)))
        self.assertIs(accepts_pairs(PAPER, (0, 0, 1, 0, 1, 1), ((0, 5), (1, 2), (3, 4))), False)
        self.assertIs(accepts_pairs(PAPER, (0, 0, 1, 0, 1, 1), ((0, 5), (3, 4))), True)
        self.assertEqual(told_pairs(PAPER, (2, 0, 2, 1)), ((0, 2),))

    def test_the_judge_of_pairs_against_all_sets_of_pairs(self):
        for paper in all_papers(2):
            for sequence in all_sequences(paper, 5):
                many = len(sequence)
                pairs = list(combinations(range(many), 2))
                right = all_valid_pairs(paper, sequence)
                sets = [row for size in range(len(pairs) + 1) for row in combinations(pairs, size) if size < 4]
                assert_judge(self, accepts_pairs, [paper, sequence], right, sets)
                anywhere = list(product(range(-1, many + 1), repeat=2))
                values = [row for size in range(2) for row in product(anywhere, repeat=size)]
                values += list(product(anywhere[::2], repeat=2))
                assert_judge(self, accepts_pairs, [paper, sequence], right, values)
        for paper, sequence in [((0,), (0,) * 6), ((1, 0), (0, 1, 0, 1, 0, 1)), ((0, 1), (0, 1, 1, 0, 1, 1))]:
            pairs = [(one, other) for one, other in combinations(range(6), 2) if paper[sequence[one]] == sequence[other]]
            for size in range(len(pairs) + 1):
                for row in combinations(pairs, size):
                    self.assertIs(accepts_pairs(paper, sequence, row), is_valid(row))

    def test_valid_pairs_in_the_words_of_the_document(self):
        for paper, sequence, valid in CASES:
            for pairs in valid:
                self.assertTrue(is_valid(pairs))
                self.assertIs(accepts_pairs(paper, sequence, pairs), True)

    def test_pairs_that_are_changed_at_one_place(self):
        for paper, sequence in [((0,), (0,) * 6), (PAPER, (0, 0, 1, 0, 1, 1)), (PAPER, (2, 0, 2, 1)), (PAPER, (0, 1, 1))]:
            right = all_valid_pairs(paper, sequence)
            for pairs in right:
                assert_judge(self, accepts_pairs, [paper, sequence], right, variants(pairs))
                turned = [pairs[:k] + (pairs[k][::-1],) + pairs[k + 1:] for k in range(len(pairs))]
                assert_judge(self, accepts_pairs, [paper, sequence], right, turned)
                more = [tuple(sorted((*pairs, pair))) for pair in product(range(6), repeat=2)]
                assert_judge(self, accepts_pairs, [paper, sequence], right, more)

    def test_what_is_torn_out_of_a_collation_leaves_valid_pairs(self):
        for paper in [(0,), (0, 1), (1, 0), PAPER]:
            for sequence in all_sequences(paper, 6, 2)[::3 if paper == PAPER else 1]:
                for collation in all_collations(paper, sequence):
                    self.check_torn(paper, sequence, collation)

    def check_torn(self, paper, sequence, collation):
        sheets = [
            (2 * sum(collation[:k]) + depth, 2 * sum(collation[:k + 1]) - 1 - depth)
            for k in range(len(collation)) for depth in range(collation[k])
        ]
        for many in range(len(sequence) + 1):
            for kept in combinations(range(len(sequence)), many):
                pairs = [(kept.index(one), kept.index(other)) for one, other in sheets if {one, other} <= set(kept)]
                left = tuple(sequence[leaf] for leaf in kept)
                self.assertIs(accepts_pairs(paper, left, tuple(sorted(pairs))), True)

    def test_fewest_missing_told_pairs_and_whom_leaves_are_paired_with(self):
        for paper, sequence, valid in CASES:
            best = greatest(valid)
            many = len(sequence)
            self.assertEqual(fewest_missing(paper, sequence), many - 2 * len(best[0]))
            self.assertEqual(told_pairs(paper, sequence), min(best))
            others = [sorted({sum(pair) - leaf for row in best for pair in row if leaf in pair}) for leaf in range(many)]
            self.assertEqual([list(paired_with(paper, sequence, leaf)) for leaf in range(many)], others)
            always = [leaf for leaf in range(many) if all(any(leaf in pair for pair in row) for row in best)]
            self.assertEqual(always_paired(paper, sequence), tuple(always))
            never = [leaf for leaf in range(many) if not others[leaf]]
            self.assertEqual(never_paired(paper, sequence), tuple(never))

    def test_no_shorter_collatable_sequence_has_these_leaves(self):
        for paper in all_papers(2):
            collatable = [leaves for leaves in all_sequences(paper, 8) if is_collatable(paper, leaves)]
            for sequence in all_sequences(paper, 4):
                shortest = min(len(leaves) for leaves in collatable if is_left_of(sequence, leaves))
                self.assertEqual(fewest_missing(paper, sequence), shortest - len(sequence))

    def test_a_leaf_left_out(self):
        for paper, sequence in [*[case[:2] for case in CASES], *LONG]:
            fewest = fewest_missing(paper, sequence)
            always = always_paired(paper, sequence)
            for leaf in range(len(sequence)):
                change = 1 if leaf in always else -1
                self.assertEqual(fewest_missing(paper, without(sequence, leaf)), fewest + change)
            self.assertEqual(fewest == 0, is_collatable(paper, sequence))
            if fewest == 0:
                self.assertEqual(always, tuple(range(len(sequence))))

    def test_bounds_of_the_fewest_missing(self):
        for paper, sequence in [*[case[:2] for case in CASES], *LONG]:
            fewest = fewest_missing(paper, sequence)
            self.assertEqual(fewest % 2, len(sequence) % 2)
            for mark in range(len(paper)):
                self.assertLessEqual(sequence.count(mark), sequence.count(paper[mark]) + fewest)
            for opening in range(len(sequence) + 1):
                parts = fewest_missing(paper, sequence[:opening]) + fewest_missing(paper, sequence[opening:])
                self.assertLessEqual(fewest, parts)

    def test_the_reflected_sequence(self):
        for paper, sequence, valid in CASES:
            last = len(sequence) - 1
            back = mirror(paper, sequence)
            self.assertEqual(fewest_missing(paper, back), fewest_missing(paper, sequence))
            for pairs in valid:
                turned = tuple(sorted((last - other, last - one) for one, other in pairs))
                self.assertIs(accepts_pairs(paper, back, turned), True)
            turned = tuple(last - leaf for leaf in always_paired(paper, sequence)[::-1])
            self.assertEqual(always_paired(paper, back), turned)
            turned = tuple(last - leaf for leaf in never_paired(paper, sequence)[::-1])
            self.assertEqual(never_paired(paper, back), turned)

    def test_renamed_marks(self):
        for names in all_renamings((0, 1, 2)):
            new = renamed_paper(PAPER, names)
            for sequence in all_sequences(PAPER, 5, 5)[::5]:
                there = renamed(sequence, names)
                for function in (fewest_missing, told_pairs, always_paired, never_paired):
                    self.assertEqual(function(new, there), function(PAPER, sequence))

    def test_restored_is_collatable_and_has_the_pairs(self):
        for paper, sequence, valid in CASES:
            best = len(sequence) + fewest_missing(paper, sequence)
            for pairs in valid:
                whole = self.check_restored(paper, sequence, pairs)
                self.assertGreaterEqual(len(whole), best)
                self.assertEqual(len(whole) == best, 2 * len(sequence) - 2 * len(pairs) == best)

    def check_restored(self, paper, sequence, pairs):
        whole, collation = restored(paper, sequence, pairs)
        self.assertEqual((type(whole), type(collation)), (tuple, tuple))
        self.assertEqual(2 * sum(collation), len(whole))
        self.assertEqual(len(whole), 2 * len(sequence) - 2 * len(pairs))
        begin = 0
        for sheets in collation:
            part = whole[begin:begin + 2 * sheets]
            self.assertTrue(part and mirror(paper, part) == part)
            begin += 2 * sheets
        self.assertTrue(is_left_of(sequence, whole))
        self.assertEqual(plain_restored(paper, sequence, pairs), (whole, collation))
        return whole

    def test_restored_up_to_24_leaves(self):
        for paper, sequence in LONG:
            whole = self.check_restored(paper, sequence, ())
            self.assertEqual(len(whole), 2 * len(sequence))
            self.check_restored(paper, sequence, told_pairs(paper, sequence))
        self.assertEqual(restored((1, 0), (0,) * 12, ()), ((0, 1) * 12, (1,) * 12))
        self.assertEqual(restored((0,), (0,) * 12, ((0, 11),)), ((0,) * 22, (11,)))
        self.assertEqual(restored(PAPER, (), ()), ((), ()))

    def test_restored_has_just_the_pairs_as_conjugate_leaves(self):
        for paper, sequence, valid in CASES:
            for pairs in valid:
                # Each leaf gets a mark of its own, so that it can be told from those that were put in.
                many = len(sequence)
                own = list(range(many, 2 * many)) + list(range(many))
                for one, other in pairs:
                    own[one], own[other], own[one + many], own[other + many] = other, one, other + many, one + many
                whole, collation = plain_restored(tuple(own), tuple(range(many)), pairs)
                self.assertEqual([mark for mark in whole if mark < many], list(range(many)))
                begin, conjugate = 0, []
                for sheets in collation:
                    part = whole[begin:begin + 2 * sheets]
                    conjugate += [row for row in zip(part[:sheets], part[::-1]) if max(row) < many]
                    begin += 2 * sheets
                self.assertEqual(tuple(sorted(conjugate)), pairs)

    def test_pairs_that_are_not_valid_are_refused(self):
        for paper, sequence, valid in CASES[::4]:
            pairs = list(combinations(range(len(sequence)), 2))
            for size in range(3):
                for row in combinations(pairs, size):
                    if row not in valid:
                        assert_bad(self, "pairs", restored, [paper, sequence, row])

    def test_twelve_leaves(self):
        for paper, sequence in LONG:
            many = len(sequence)
            fewest = fewest_missing(paper, sequence)
            pairs = told_pairs(paper, sequence)
            self.assertIs(accepts_pairs(paper, sequence, pairs), True)
            self.assertEqual(many - 2 * len(pairs), fewest)
            never, always = never_paired(paper, sequence), always_paired(paper, sequence)
            for leaf in range(many):
                others = paired_with(paper, sequence, leaf)
                self.assertEqual(others == (), leaf in never)
                self.assertTrue(others or leaf not in always)
                for other in others:
                    self.assertIn(leaf, paired_with(paper, sequence, other))
        self.assertEqual(told_pairs((0,), (0,) * 12), tuple((leaf, leaf + 1) for leaf in range(0, 12, 2)))
        self.assertEqual((fewest_missing((1, 0), (0,) * 12), told_pairs((1, 0), (0,) * 12)), (12, ()))
        self.assertEqual(paired_with((0,), (0,) * 12, 0), (1, 3, 5, 7, 9, 11))
        rainbow = (0, 1, 2, 3, 4, 5, 5, 4, 3, 2, 1, 0)
        self.assertEqual(told_pairs((0, 1, 2, 3, 4, 5), rainbow), tuple((leaf, 11 - leaf) for leaf in range(6)))

    def test_twelve_leaves_against_all_valid_pairs(self):
        for paper, sequence in LONG[6:9]:
            best = greatest(all_valid_pairs(paper, sequence))
            self.assertEqual(told_pairs(paper, sequence), min(best))
            self.assertEqual(fewest_missing(paper, sequence), len(sequence) - 2 * len(best[0]))
            for leaf in range(len(sequence)):
                others = sorted({sum(pair) - leaf for row in best for pair in row if leaf in pair})
                self.assertEqual(list(paired_with(paper, sequence, leaf)), others)

    def test_judged_values_can_be_of_any_kind(self):
        others = [
            (0, 1), [(0, 1)], ([0, 1],), ((False, True),), ((0, True),), ((False, 1),), ((0, 1, 1),), ((0,),), ((),),
            ((0, 1), ()), ((0, 1), None), ("01",), (("0", "1"),), ((0, None),), ((0, DEEP),), ((DEEP, 1),), (DEEP, DEEP),
            ((0, DEEP_LIST),), ((0, 10 ** 30),), ((-1, 0),), ((-10 ** 30, 1),), ((1, 0),), ((0, 0),), {(0, 1): 1},
            ((0, 1), (0, 1)), ((0, 1), (0, 2)), ((0, 2), (0, 1)), ((0, 1),) * 1000, ((0, 1), (1, 2)),
        ]
        for value in OTHER_KINDS + others:
            self.assertIs(accepts_pairs(PAPER, (0, 1, 1), value), False)
            self.assertIs(accepts_pairs(PAPER, (0, 1), value), False)

    def test_wrong_arguments(self):
        sequences = [*wrong_sequences(PAPER), (0,) * 13, (2,) * 16, (0, 1) * 7]
        wrong = [("paper", wrong_papers()), ("sequence", sequences)]
        for good in [(0, 1, 1), (0, 1) * 6, (2,) * 12]:
            for function in (fewest_missing, told_pairs, always_paired, never_paired):
                assert_checks(self, function, [PAPER, good], wrong)
            for value in (None, ((0, 1),), DEEP):
                assert_checks(self, accepts_pairs, [PAPER, good, value], [*wrong, ("value", [])])
            leaves = ("leaf", wrong_integers(0, len(good) - 1))
            assert_checks(self, paired_with, [PAPER, good, len(good) - 1], [*wrong, leaves])
        pairs = ("pairs", [*OTHER_KINDS, ((1, 0),), ((1, 2),), [(0, 1)], ([0, 1],)])
        assert_checks(self, restored, [PAPER, (0, 1, 1), ((0, 1),)], [*wrong, pairs])
        assert_bad(self, "leaf", paired_with, [PAPER, (), 0])


def plain_restored(paper, sequence, pairs):
    """The restored sequence and its collation, in the words of point 80."""
    whole, collation, leaf = (), (), 0
    while leaf < len(sequence):
        nest = [pair for pair in pairs if pair[0] == leaf]
        if not nest:
            whole += (sequence[leaf], paper[sequence[leaf]])
            collation += (1,)
            leaf += 1
            continue
        nest += [pair for pair in pairs if leaf < pair[0] and pair[1] < nest[0][1]]
        left, right = (), ()
        for place, (one, other) in enumerate(nest):
            if place + 1 < len(nest):
                inner = nest[place + 1]
                ahead, behind = sequence[one + 1:inner[0]], sequence[inner[1] + 1:other]
                left += (sequence[one],) + ahead + mirror(paper, behind)
                right = behind + mirror(paper, ahead) + (sequence[other],) + right
            else:
                between = sequence[one + 1:other]
                left += (sequence[one],) + between
                right = mirror(paper, between) + (sequence[other],) + right
        whole += left + right
        collation += ((len(left + right)) // 2,)
        leaf = nest[0][1] + 1
    return whole, collation


if __name__ == "__main__":
    unittest.main()

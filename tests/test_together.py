import unittest
from itertools import combinations, product

from helper import (
    DEEP, DEEP_LIST, OTHER_KINDS, all_collations, assert_checks, assert_judge, compositions, copies_cases, variants,
    wrong_copies,
)
from quiremarks.copies import finest_common
from quiremarks.together import accepts_common, common_evidence

PAPER = (1, 0)
TWO = ((PAPER, (0, 1, 0, 1)), (PAPER, (0, 1, 1, 0)))
THREE = (
    (PAPER, (0, 1, 0, 1, 1, 0, 1, 0)), (PAPER, (0, 1, 1, 0, 1, 0, 0, 1)), (PAPER, (0, 0, 1, 1, 0, 0, 1, 1)),
)
CASES = copies_cases()


def common(copies):
    found = [set(all_collations(paper, sequence)) for paper, sequence in copies]
    return sorted(set.intersection(*found))


def places_of(copies, begin, many):
    """Every pair of a copy and a leaf that shows that these leaves are no gathering of all copies, in order."""
    return [
        (index, leaf) for index, (paper, sequence) in enumerate(copies) for leaf in range(begin, begin + many // 2)
        if paper[sequence[leaf]] != sequence[begin + begin + many - 1 - leaf]
    ]


def beginnings(copies):
    """Each common collation of first leaves but not of all, with the places that can be told behind it."""
    leaves = len(copies[0][1])
    found = []
    for begin in range(0, leaves, 2):
        rest = [places_of(copies, begin, many) for many in range(2, leaves - begin + 1, 2)]
        ahead = tuple((paper, sequence[:begin]) for paper, sequence in copies)
        found += [(collation, rest) for collation in common(ahead)]
    return found


def all_evidence(copies):
    """All evidence about the copies, in the words of point 71."""
    found = [("common", collation) for collation in common(copies)]
    for beginning, rest in beginnings(copies):
        found += [("none", beginning, places) for places in product(*rest)]
    return found


class TogetherTest(unittest.TestCase):
    def test_examples(self):
        self.assertEqual(common_evidence(THREE), ("none", (), ((2, 0), (1, 0), (0, 0), (0, 0))))
        self.assertIs(accepts_common(THREE, ("common", (2, 2))), False)
        self.assertEqual(common_evidence((((0,), (0,)),)), ("none", (), ()))
        self.assertIs(accepts_common(TWO, ("common", (1, 1))), True)
        self.assertIs(accepts_common(TWO, ("none", (1,), ((0, 2),))), False)

    def test_examples_of_point_76(self):
        first, second = TWO
        self.assertEqual([row for row in compositions(2) if accepts_common((first,), ("common", row))], [(1, 1), (2,)])
        self.assertEqual([row for row in compositions(2) if accepts_common((second,), ("common", row))], [(1, 1)])
        self.assertEqual([row for row in compositions(2) if accepts_common(TWO, ("common", row))], [(1, 1)])

    def test_the_told_evidence(self):
        seen = set()
        for copies, found in CASES:
            told = common_evidence(copies)
            self.assertIs(accepts_common(copies, told), True)
            if found:
                self.assertEqual(told, ("common", found[0]))
                continue
            beginning = []
            leaves = len(copies[0][1])
            while True:
                begin = 2 * sum(beginning)
                folds = [
                    many for many in range(2, leaves - begin + 1, 2) if not places_of(copies, begin, many)
                ]
                if not folds:
                    break
                beginning.append(folds[0] // 2)
            places = tuple(places_of(copies, begin, many)[0] for many in range(2, leaves - begin + 1, 2))
            self.assertEqual(told, ("none", tuple(beginning), places))
            seen.add((len(beginning) > 0, *sorted({copy for copy, _ in places})))
        self.assertTrue({(False,), (False, 0), (False, 0, 1, 2), (True,), (True, 1), (True, 2)} <= seen)

    def test_just_the_evidence_is_accepted(self):
        for copies, found in CASES[::17]:
            if len(copies[0][1]) > 5:
                continue
            right = all_evidence(copies)
            self.assertEqual({evidence[0] for evidence in right}, {"common" if found else "none"})
            half = len(copies[0][1]) // 2
            splits = [row for many in range(half + 2) for row in compositions(many)]
            values = [("common", row) for row in splits]
            places = list(product(range(-1, len(copies) + 1), range(-1, len(copies[0][1]) + 1)))
            values += [("none", row, told) for row in splits for many in (0, 1) for told in product(places, repeat=many)]
            values += [("none", row, told) for row in splits for told in product(places[::3], repeat=2)]
            assert_judge(self, accepts_common, [copies], right, values + right)

    def test_evidence_that_is_changed_at_one_place(self):
        long = ((PAPER, (0, 1, 0, 0, 1, 0)), ((0, 1, 2), (0, 0, 1, 2, 2, 0)))
        for copies in [
            TWO, THREE, THREE[:2], THREE[1:], TWO[::-1], TWO[1:], long, long[::-1], (((0,), ()),), (((0,), (0,)),) * 3,
            (((0, 1), (0, 0, 1)), (PAPER, (0, 1, 1))), ((PAPER, (0, 0)),) * 2,
        ]:
            right = all_evidence(copies)
            for evidence in [common_evidence(copies), *right[:8], *right[-8:]]:
                assert_judge(self, accepts_common, [copies], right, variants(evidence))

    def test_the_evidence_of_fewer_copies(self):
        self.assertEqual(all_evidence(THREE)[0][0], "none")
        for copies in [THREE, TWO, (TWO[0], (PAPER, (0, 0, 1, 0))), (*TWO, (PAPER, (0, 1, 1, 1)))]:
            right = all_evidence(copies)
            fewer = [rows for many in range(1, len(copies)) for rows in combinations(copies, many)]
            values = [evidence for rows in fewer for evidence in all_evidence(rows)]
            assert_judge(self, accepts_common, [copies], right, values)
        # With a further copy the finest of the others is common no longer, and no evidence that none is.
        self.assertIs(accepts_common(THREE, ("common", finest_common(THREE[:2]))), False)
        self.assertIs(accepts_common(TWO, common_evidence(TWO[:1])), True)
        self.assertIs(accepts_common(TWO, ("common", (2,))), False)

    def test_beginnings_that_are_all_of_the_leaves_and_one_leaf_left(self):
        same = (((0,), (0,) * 6), (PAPER, (0, 1) * 3))
        for beginning in compositions(3):
            self.assertIs(accepts_common(same, ("none", beginning, ())), False)
            self.assertIs(accepts_common(same, ("common", beginning)), True)
        seven = (((0,), (0,) * 7), (PAPER, (0, 1) * 3 + (0,)))
        self.assertEqual(common_evidence(seven), ("none", (1, 1, 1), ()))
        for beginning in compositions(3):
            self.assertIs(accepts_common(seven, ("none", beginning, ())), True)
            self.assertIs(accepts_common(seven, ("none", beginning, ((0, 6),))), False)
            self.assertIs(accepts_common(seven, ("common", beginning)), False)
        for beginning in [(), (1,), (2,), (1, 1), (4,), (1, 3), (3, 1)]:
            self.assertIs(accepts_common(seven, ("none", beginning, ())), False)
        full = (((0,), (0,) * 16),)
        self.assertEqual(common_evidence(full), ("common", (1,) * 8))
        self.assertIs(accepts_common(full, ("none", (1,) * 8, ())), False)
        self.assertIs(accepts_common(full, ("none", (1,) * 9, ())), False)

    def test_judged_values_can_be_of_any_kind(self):
        others = [
            "common", "none", ("common",), ("none",), ("none", (1,)), ("common", (1, 1), ()), ["common", (1, 1)],
            ("collation", (1, 1)), ("rest", (), ()), (None, (1, 1)), (0, (1, 1)), ("common", [1, 1]), ("common", (1, True)),
            ("common", DEEP), ("common", DEEP_LIST), (DEEP, (1, 1)), (DEEP_LIST, (), ()), ("none", DEEP, ()),
            ("none", (), DEEP), ("none", (), (DEEP, DEEP)), ("none", (), ((DEEP, 0), (0, 0))), ("none", (), ((0, DEEP),)),
            ("none", None, None), ("none", (), None), ("none", "", ()), ("common", None), ("common", (1,) * 100000),
        ]
        for value in OTHER_KINDS + others:
            self.assertIs(accepts_common(TWO, value), False)
            self.assertIs(accepts_common((TWO[0], (PAPER, (0, 0, 0, 0))), value), False)
            self.assertIs(accepts_common((((0,), (0, 0, 0)),), value), False)

    def test_wrong_arguments(self):
        copies = ("copies", wrong_copies())
        for good in (TWO, THREE, TWO[:1]):
            assert_checks(self, common_evidence, [good], [copies])
            for value in (None, ("common", (1, 1)), DEEP):
                assert_checks(self, accepts_common, [good, value], [copies, ("value", [])])


if __name__ == "__main__":
    unittest.main()

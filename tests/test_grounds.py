import unittest
from itertools import product

from helper import (
    DEEP, DEEP_LIST, OTHER_KINDS, all_collations, all_papers, all_sequences, assert_checks, assert_judge,
    assert_not_possible, book_cases, compositions, parts, variants, wrong_papers, wrong_sequences,
)
from quiremarks.grounds import accepts_only, only_evidence

PAPER = (1, 0, 2)
CASES = book_cases()
COLLATABLE = [case for case in CASES if case[2]]
OTHERS = [case for case in CASES if not case[2]]


def near(factors):
    return [*zip(factors, factors[1:]), *zip(factors, factors[2:])]


def right_places(factor, other):
    found = [-1] if len(factor) != len(other) else []
    return found + [place for place, (mark, new) in enumerate(zip(factor, other)) if mark != new]


def all_evidence(sequence, found):
    """All evidence whether there is just one collation, in the words of point 56."""
    if not found:
        return []
    right = [("two", first, second) for first in found for second in found if first != second]
    places = [right_places(factor, other) for factor, other in near(parts(sequence, found[0]))]
    return right + [("one", row) for row in product(*places)]


class GroundsTest(unittest.TestCase):
    def test_examples(self):
        self.assertEqual(only_evidence(PAPER, (0, 1, 1, 0)), ("one", (0,)))
        self.assertEqual(only_evidence(PAPER, (0, 1, 1, 0, 0, 1)), ("two", (1, 1, 1), (3,)))
        self.assertIs(accepts_only(PAPER, (0, 1, 1, 0), ("one", (1,))), True)
        self.assertIs(accepts_only(PAPER, (0, 1, 0, 1), ("one", (0,))), False)
        self.assertIs(accepts_only(PAPER, (0, 1, 0, 1), ("two", (2,), (1, 1))), True)

    def test_the_told_evidence(self):
        seen = set()
        for paper, sequence, found in COLLATABLE:
            told = only_evidence(paper, sequence)
            self.assertIs(accepts_only(paper, sequence, told), True)
            if len(found) > 1:
                self.assertEqual(told, ("two", found[0], found[1]))
                continue
            places = tuple(
                -1 if len(factor) != len(other) else right_places(factor, other)[0]
                for factor, other in near(parts(sequence, found[0]))
            )
            self.assertEqual(told, ("one", places))
            seen |= set(places)
        self.assertTrue({-1, 0} <= seen)

    def test_just_the_evidence_is_accepted(self):
        for paper in all_papers(3):
            for sequence in all_sequences(paper, 4 if len(paper) == 3 else 6):
                self.check_all(paper, sequence, all_collations(paper, sequence))

    def check_all(self, paper, sequence, found):
        right = all_evidence(sequence, found)
        if found:
            self.assertEqual({evidence[0] for evidence in right}, {"one" if len(found) == 1 else "two"})
        values = [("one", row) for many in range(4) for row in product(range(-1, 4), repeat=many)]
        splits = [split for many in range(4) for split in compositions(many)]
        values += [("two", first, second) for first in splits for second in splits]
        assert_judge(self, accepts_only, [paper, sequence], right, values + right)

    def test_evidence_that_is_changed_at_one_place(self):
        for sequence in [
            (), (2, 2), (0, 1, 1, 0), (2, 2, 0, 0, 1, 1), (0, 0, 1, 1, 0, 1), (0, 0, 1, 1, 1, 1, 0, 0), (0, 1, 0, 1),
            (0, 2, 2, 1, 0, 0, 1, 1, 2, 2), (0, 1, 2, 2, 1, 0, 2, 2), (2, 2, 2, 2, 2, 2), (0, 1, 2, 2, 0, 1, 2, 2),
        ]:
            right = all_evidence(sequence, all_collations(PAPER, sequence))
            for evidence in right[:20]:
                assert_judge(self, accepts_only, [PAPER, sequence], right, variants(evidence))

    def test_places_of_factors_with_as_many_leaves_and_with_others(self):
        two, four = (2, 2), (0, 0, 1, 1)
        self.assertEqual(only_evidence(PAPER, two + four), ("one", (-1,)))
        for place in range(-3, 5):
            self.assertIs(accepts_only(PAPER, two + four, ("one", (place,))), place in (-1, 0, 1))
        last = (0, 2, 2, 1)
        self.assertEqual(only_evidence(PAPER, four + last), ("one", (1,)))
        for place in range(-5, 6):
            self.assertIs(accepts_only(PAPER, four + last, ("one", (place,))), place in (1, 2))
        # The same place twice, for two next ones, and once more for the next but one.
        self.assertEqual(only_evidence(PAPER, (0, 1) + (1, 0) + (2, 2)), ("one", (0, 0, 0)))
        self.assertIs(accepts_only(PAPER, (0, 1) + (1, 0) + (2, 2), ("one", (0, 0))), False)
        self.assertIs(accepts_only(PAPER, (0, 1) + (1, 0) + (2, 2), ("one", (0, 0, 0, 0))), False)

    def test_two_collations_exchanged_or_the_same_one_twice(self):
        for paper, sequence, found in COLLATABLE[::3]:
            for first in found[:6]:
                for second in found[-6:]:
                    value = ("two", first, second)
                    self.assertIs(accepts_only(paper, sequence, value), first != second)
                    self.assertIs(accepts_only(paper, sequence, ("two", list(first), second)), False)
                    self.assertIs(accepts_only(paper, sequence, ("two", first, list(second))), False)

    def test_nothing_is_accepted_of_a_sequence_that_is_not_collatable(self):
        for paper, sequence, _ in OTHERS:
            assert_not_possible(self, "collation", only_evidence, [paper, sequence])
            half = len(sequence) // 2
            values = [("one", (place,) * many) for many in range(4) for place in (-1, 0, 1)]
            values += [("two", (half,), (1,) * half), ("two", (), (half,)), ("two", (1,) * half, (half,))]
            assert_judge(self, accepts_only, [paper, sequence], [], values)

    def test_judged_values_can_be_of_any_kind(self):
        others = [
            "one", "two", ("one",), ("two",), ("two", (1, 1)), ["two", (1, 1), (2,)], ("two", (1, 1), (2,), ()),
            ("three", (1, 1), (2,)), (1, (0,)), (2, (1, 1), (2,)), ("two", (1, True), (2,)), ("two", (True, 1), (1, 1)),
            ("two", (1, 1), (1, True)), ("one", DEEP), ("one", DEEP_LIST), ("one", (DEEP,)), ("two", DEEP, DEEP),
            ("two", (1, 1), DEEP), ("two", DEEP_LIST, (2,)), (DEEP, (0,)), (DEEP_LIST, (0,)), ("one", (False,)),
            ("one", (0, DEEP)), ("one", ("0",)), ("one", (None,)), ("one", [0]), ("one", 0), ("one", (10 ** 30,)),
            ("one", (-10 ** 30,)), ("one", (0,) * 100000), ("two", (1,) * 100000, (2,)),
        ]
        for value in OTHER_KINDS + others:
            self.assertIs(accepts_only(PAPER, (0, 1, 0, 1), value), False)
            self.assertIs(accepts_only(PAPER, (0, 1, 1, 0), value), False)
            self.assertIs(accepts_only(PAPER, (0, 0, 1, 0), value), False)

    def test_wrong_arguments(self):
        wrong = [("paper", wrong_papers()), ("sequence", wrong_sequences(PAPER))]
        assert_checks(self, only_evidence, [PAPER, (0, 1, 1, 0)], wrong)
        for value in (None, ("one", (0,)), DEEP):
            assert_checks(self, accepts_only, [PAPER, (0, 1, 1, 0), value], [*wrong, ("value", [])])


if __name__ == "__main__":
    unittest.main()

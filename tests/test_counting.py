import unittest
from itertools import product

from helper import (
    all_collations, all_papers, assert_bad, assert_checks, compositions, folds, plain_factors, wrong_integers,
)
from quiremarks.counting import (
    count_collatable, count_collations, count_gatherings, count_only, count_primes, count_with_factors,
)

# Up to how many sheets the sequences of a paper with so many marks are gone through.
MOST = {1: 8, 2: 5, 3: 3, 4: 2, 5: 2, 6: 1}
PAPERS = [paper for paper in all_papers(5) if len(paper) < 4 or paper[0] in (0, 1)]
PAPERS += [(0, 1, 2, 3, 4, 5), (1, 0, 3, 2, 5, 4), (5, 1, 2, 4, 3, 0)]


def gone_through(paper, sheets):
    """What there is of sequences of so many sheets: gatherings, primes, collations, only, and by factors."""
    found = {"gatherings": 0, "primes": 0, "collations": 0, "only": 0, "factors": [0] * (sheets + 2)}
    for sequence in product(range(len(paper)), repeat=2 * sheets):
        factors, rest = plain_factors(paper, sequence)
        found["gatherings"] += folds(paper, sequence)
        if not rest:
            collations = len(all_collations(paper, sequence))
            found["primes"] += len(factors) == 1
            found["collations"] += collations
            found["only"] += collations == 1
            found["factors"][len(factors)] += 1
    return found


class CountingTest(unittest.TestCase):
    def test_examples(self):
        self.assertEqual([count_primes(2, sheets) for sheets in range(1, 5)], [2, 2, 4, 6])
        self.assertEqual((count_gatherings(2, 4), count_collatable(2, 3)), (16, 20))
        self.assertEqual([count_with_factors(2, 3, factors) for factors in range(5)], [0, 4, 8, 8, 0])
        self.assertEqual((count_collations(2, 3), count_only(2, 3), count_collations(1, 30)), (32, 12, 536870912))
        self.assertEqual([count_only(1, sheets) for sheets in range(4)], [1, 1, 0, 0])
        self.assertEqual(count_with_factors(5, 0, 0), 1)

    def test_against_all_sequences(self):
        for paper in PAPERS:
            marks = len(paper)
            for sheets in range(MOST[marks] + 1):
                with self.subTest(paper=paper, sheets=sheets):
                    found = gone_through(paper, sheets)
                    if sheets > 0:
                        self.assertEqual(count_gatherings(marks, sheets), found["gatherings"])
                        self.assertEqual(count_primes(marks, sheets), found["primes"])
                    self.assertEqual(count_collatable(marks, sheets), sum(found["factors"]))
                    self.assertEqual(count_collations(marks, sheets), found["collations"])
                    self.assertEqual(count_only(marks, sheets), found["only"])
                    counts = [count_with_factors(marks, sheets, many) for many in range(sheets + 2)]
                    self.assertEqual(counts, found["factors"])

    def test_collatable_sequences_are_primes_one_behind_another(self):
        for marks in (1, 2, 3, 7, 26):
            for sheets in range(9):
                by_factors = [0] * 31
                only = 0
                for sizes in compositions(sheets):
                    many = different = 1
                    for place, size in enumerate(sizes):
                        primes = count_primes(marks, size)
                        many *= primes
                        different *= max(0, primes - sizes[max(0, place - 2):place].count(size))
                    by_factors[len(sizes)] += many
                    only += different
                self.assertEqual([count_with_factors(marks, sheets, many) for many in range(31)], by_factors)
                self.assertEqual(count_only(marks, sheets), only)

    def test_sums_for_up_to_26_marks_and_30_sheets(self):
        for marks in range(1, 27):
            primes = [0] + [count_primes(marks, sheets) for sheets in range(1, 31)]
            collatable = [count_collatable(marks, sheets) for sheets in range(31)]
            self.assertEqual((collatable[0], count_collations(marks, 0), count_only(marks, 0)), (1, 1, 1))
            for sheets in range(1, 31):
                whole = marks ** sheets
                self.assertEqual(count_gatherings(marks, sheets), whole)
                parts = [primes[half] * marks ** (sheets - 2 * half) for half in range(1, sheets // 2 + 1)]
                self.assertEqual(primes[sheets] + sum(parts), whole)
                first = [primes[many] * collatable[sheets - many] for many in range(1, sheets + 1)]
                self.assertEqual(collatable[sheets], sum(first))
                self.assertEqual(count_collations(marks, sheets), whole * 2 ** (sheets - 1))
                only = count_only(marks, sheets)
                self.assertTrue(0 <= only <= collatable[sheets] <= count_collations(marks, sheets))
                self.assertEqual(primes[sheets] > 0, marks > 1 or sheets == 1)

    def test_factors_for_up_to_30_sheets(self):
        for marks in (1, 2, 5, 26):
            before = [1] + [0] * 30
            primes = [0] + [count_primes(marks, sheets) for sheets in range(1, 31)]
            for factors in range(31):
                counts = [count_with_factors(marks, sheets, factors) for sheets in range(31)]
                self.assertEqual(counts, before)
                self.assertEqual(counts[:factors], [0] * factors)
                self.assertEqual(counts[factors], marks ** factors)
                before = [
                    sum(primes[last] * counts[sheets - last] for last in range(1, sheets + 1)) for sheets in range(31)
                ]
            for sheets in (0, 1, 7, 30):
                every = [count_with_factors(marks, sheets, factors) for factors in range(31)]
                self.assertEqual(sum(every), count_collatable(marks, sheets))

    def test_just_one_collation_for_up_to_30_sheets(self):
        # With the shortest factors only: of different marks, no two of three in a row the same.
        self.assertEqual([count_only(26, sheets) for sheets in (1, 2)], [26, 26 * 25 + 26 * 25])
        for sheets in range(4, 31):
            # A polynomial of the number of marks, of the degree of the number of sheets.
            row = [count_only(marks, sheets) for marks in range(1, 27)]
            for _ in range(sheets + 1):
                row = [later - earlier for earlier, later in zip(row, row[1:])]
            self.assertEqual(set(row), {0} if sheets < 25 else set())

    def test_one_mark(self):
        self.assertEqual([count_primes(1, sheets) for sheets in range(1, 31)], [1] + [0] * 29)
        self.assertEqual([count_gatherings(1, sheets) for sheets in range(1, 31)], [1] * 30)
        self.assertEqual([count_collatable(1, sheets) for sheets in range(31)], [1] * 31)
        self.assertEqual([count_only(1, sheets) for sheets in range(31)], [1, 1] + [0] * 29)
        for sheets in range(31):
            counts = [count_with_factors(1, sheets, factors) for factors in range(31)]
            self.assertEqual(counts, [int(factors == sheets) for factors in range(31)])

    def test_no_sheets(self):
        for marks in range(1, 27):
            self.assertEqual((count_collatable(marks, 0), count_collations(marks, 0), count_only(marks, 0)), (1, 1, 1))
            self.assertEqual([count_with_factors(marks, 0, factors) for factors in range(31)], [1] + [0] * 30)
            for function in (count_gatherings, count_primes):
                assert_bad(self, "sheets", function, [marks, 0])

    def test_wrong_arguments(self):
        marks = ("marks", [*wrong_integers(1, 26), 0, 27])
        sheets, some = ("sheets", [*wrong_integers(0, 30), 31]), ("sheets", [*wrong_integers(1, 30), 0, 31])
        factors = ("factors", [*wrong_integers(0, 30), 31])
        for good in [(1, 1), (26, 30), (2, 7), (1, 30), (26, 1)]:
            for function in (count_gatherings, count_primes):
                assert_checks(self, function, good, [marks, some])
            for function in (count_collatable, count_collations, count_only):
                assert_checks(self, function, good, [marks, sheets])
            for many in (0, 1, 30):
                assert_checks(self, count_with_factors, [*good, many], [marks, sheets, factors])

    def test_bounds_are_let(self):
        self.assertEqual(count_gatherings(26, 30), 26 ** 30)
        self.assertEqual(count_collations(26, 30), 26 ** 30 * 2 ** 29)
        self.assertEqual(count_with_factors(26, 30, 30), 26 ** 30)
        self.assertEqual(count_with_factors(26, 0, 30), 0)
        for value in (count_primes(26, 30), count_collatable(26, 30), count_only(26, 30)):
            self.assertIs(type(value), int)


if __name__ == "__main__":
    unittest.main()

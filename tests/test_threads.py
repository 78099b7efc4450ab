import unittest
from itertools import product
from random import Random

from helper import (
    DEEP, DEEP_LIST, OTHER_KINDS, Anything, all_papers, all_sequences, assert_bad, assert_checks, book_cases, mirror,
    nested, variants, wrong_integers, wrong_papers, wrong_sequences,
)
from quiremarks.threads import (
    accepts_open, count_agreeing, fails_at, implied, looks_of, nearest_collation, next_opening,
)

PAPER = (1, 0, 2)
ONE, SIX = (0,), (0,) * 6
CASES = book_cases()


def centers(collation):
    found, opening = set(), 0
    for sheets in collation:
        found.add(opening + sheets)
        opening += 2 * sheets
    return found


def looks(sequence, collation):
    """The observations of somebody who looks at all openings."""
    return tuple("t" if opening in centers(collation) else "n" for opening in range(1, len(sequence)))


def contradicted(collation, observations):
    """How many observations the collation contradicts, in the words of point 102."""
    threads = centers(collation)
    return sum(
        seen == "t" and opening not in threads or seen == "n" and opening in threads
        for opening, seen in enumerate(observations, 1)
    )


def agreeing(found, observations):
    return [collation for collation in found if contradicted(collation, observations) == 0]


def plain_implied(found, observations):
    rows = agreeing(found, observations)
    if not rows:
        return None
    told = []
    for opening, seen in enumerate(observations, 1):
        with_thread = [row for row in rows if opening in centers(row)]
        told.append(seen if seen != "?" else "t" if with_thread == rows else "?" if with_thread else "n")
    return tuple(told)


def plain_fails_at(found, observations):
    for many in range(len(observations) + 1):
        if not agreeing(found, observations[:many]):
            return many
    return None


def plain_next(found, observations):
    rows = agreeing(found, observations)
    best = None
    for opening, seen in enumerate(observations, 1):
        if seen == "?" and len(rows) > 1:
            many = sum(opening in centers(row) for row in rows)
            lesser = min(many, len(rows) - many)
            if best is None or lesser > best[0]:
                best = (lesser, opening)
    return None if best is None else best[1]


def seen_at(sequence, found, number):
    """Observations of a sequence: of a collation, of one in part, of one with some wrong, of none."""
    openings = max(0, len(sequence) - 1)
    chance = Random(number)
    rows = [("?",) * openings, ("n",) * openings, ("t",) * openings]
    rows += [tuple(chance.choice(words) for _ in range(openings)) for words in ("tn?", "tn", "????t", "??n", "?tn??")]
    for collation in [found[0], found[-1], chance.choice(found)] if found else []:
        full = looks(sequence, collation)
        rows.append(full)
        for share in (2, 4, 8):
            rows.append(tuple("?" if chance.randrange(share) else look for look in full))
        if openings:
            place = chance.randrange(openings)
            rows.append((*full[:place], "n" if full[place] == "t" else "t", *full[place + 1:]))
    return rows


SHORT = [
    (paper, sequence, found, observations)
    for paper, sequence, found in CASES if len(sequence) <= 4
    for observations in product("tn?", repeat=max(0, len(sequence) - 1))
]
LONG = [
    (paper, sequence, found, observations)
    for number, (paper, sequence, found) in enumerate(CASES) if len(sequence) > 4
    for observations in seen_at(sequence, found, number)
]
ALL = SHORT + LONG[::2]


class ThreadsTest(unittest.TestCase):
    def test_examples(self):
        seen, none = ("t", "?", "?", "?", "?"), ("n",) * 5
        self.assertEqual((count_agreeing(ONE, SIX, seen), next_opening(ONE, SIX, seen)), (2, 3))
        self.assertEqual((implied(ONE, SIX, seen), fails_at(ONE, SIX, seen)), (("t", "n", "?", "?", "?"), None))
        self.assertEqual((count_agreeing(ONE, SIX, ("t",) * 5), fails_at(ONE, SIX, ("t",) * 5)), (0, 2))
        self.assertEqual(nearest_collation(ONE, SIX, ("t",) * 5), ((1, 1, 1), 2))
        self.assertEqual((nearest_collation(ONE, SIX, none), fails_at(ONE, SIX, none)), (((3,), 1), 3))
        self.assertIsNone(implied(ONE, SIX, none))
        self.assertEqual(looks_of(ONE, SIX, (1, 2)), ("t", "n", "n", "t", "n"))
        self.assertEqual(implied((1, 0), (0, 1, 1, 0, 0, 1), ("?",) * 5), ("?", "n", "t", "n", "?"))
        self.assertEqual(fails_at((1, 0), (0, 0), ("?",)), 0)
        self.assertIsNone(nearest_collation((1, 0), (0, 0), ("?",)))
        self.assertIs(accepts_open(ONE, SIX, seen, 3, ((1, 1, 1), (1, 2))), True)
        self.assertIs(accepts_open(ONE, SIX, seen, 3, ((1, 2), (1, 1, 1))), False)
        self.assertIs(accepts_open(ONE, SIX, seen, 1, ((1, 2), (3,))), False)

    def test_examples_of_point_111(self):
        self.assertEqual(count_agreeing(ONE, SIX, ("?",) * 5), 4)
        seen = ("t",) + ("?",) * 4
        self.assertEqual(count_agreeing(ONE, SIX, seen), 2)
        self.assertEqual(implied(ONE, SIX, seen)[1], "n")
        self.assertEqual(next_opening(ONE, SIX, seen), 3)

    def test_cases_are_of_all_lengths_and_kinds(self):
        self.assertEqual({len(sequence) for _, sequence, _, _ in ALL}, set(range(17)))
        for many in (0, 1, 2):
            self.assertTrue(any(min(2, len(agreeing(found, seen))) == many for _, _, found, seen in ALL))

    def test_count_agreeing_and_the_nearest_collation(self):
        for paper, sequence, found, observations in ALL:
            arguments = (paper, sequence, observations)
            self.assertEqual(count_agreeing(*arguments), len(agreeing(found, observations)))
            told = None
            if found:
                told = min([(contradicted(row, observations), row) for row in found])[::-1]
            self.assertEqual(nearest_collation(*arguments), told)

    def test_implied_and_fails_at(self):
        for paper, sequence, found, observations in ALL:
            arguments = (paper, sequence, observations)
            told = implied(*arguments)
            self.assertEqual(told, plain_implied(found, observations))
            self.assertEqual(fails_at(*arguments), plain_fails_at(found, observations))
            self.assertEqual(fails_at(*arguments) is None, told is not None)
            self.assertEqual(fails_at(*arguments) == 0, found == [])
            if told is not None:
                self.assertIs(type(told), tuple)
                self.assertEqual(implied(paper, sequence, told), told)
                self.assertEqual(agreeing(found, told), agreeing(found, observations))
                self.assertEqual(count_agreeing(paper, sequence, told), count_agreeing(*arguments))

    def test_next_opening(self):
        for paper, sequence, found, observations in ALL:
            told = next_opening(paper, sequence, observations)
            self.assertEqual(told, plain_next(found, observations))
            if told is not None:
                self.assertEqual(observations[told - 1], "?")
                for look in "tn":
                    further = (*observations[:told - 1], look, *observations[told:])
                    self.assertGreater(count_agreeing(paper, sequence, further), 0)

    def test_looking_where_it_says_ends_with_one_collation(self):
        for paper, sequence, found in CASES[::3]:
            for collation in found[::5]:
                full, seen = looks(sequence, collation), ("?",) * max(0, len(sequence) - 1)
                opening = next_opening(paper, sequence, seen)
                while opening is not None:
                    seen = (*seen[:opening - 1], full[opening - 1], *seen[opening:])
                    opening = next_opening(paper, sequence, seen)
                self.assertEqual(agreeing(found, seen), [collation])
                self.assertEqual(implied(paper, sequence, seen), full)

    def test_looks_of_a_collation(self):
        for paper, sequence, found in CASES[::2]:
            for collation in found[::3]:
                full = looks_of(paper, sequence, collation)
                self.assertEqual(full, looks(sequence, collation))
                self.assertIs(type(full), tuple)
                self.assertEqual(count_agreeing(paper, sequence, full), 1)
                self.assertEqual(nearest_collation(paper, sequence, full), (collation, 0))
            self.assertEqual(len({looks(sequence, collation) for collation in found}), len(found))

    def test_no_observations(self):
        self.assertEqual((count_agreeing(PAPER, (), ()), implied(PAPER, (), ())), (1, ()))
        self.assertEqual((nearest_collation(PAPER, (), ()), looks_of(PAPER, (), ())), (((), 0), ()))
        self.assertEqual((fails_at(PAPER, (), ()), next_opening(PAPER, (), ())), (None, None))
        self.assertEqual((count_agreeing(PAPER, (2,), ()), implied(PAPER, (2,), ())), (0, None))
        self.assertEqual((nearest_collation(PAPER, (2,), ()), fails_at(PAPER, (2,), ())), (None, 0))
        self.assertIsNone(next_opening(PAPER, (2,), ()))
        for function in (count_agreeing, nearest_collation, implied, fails_at, next_opening):
            for sequence in [(), (2,)]:
                assert_bad(self, "observations", function, [PAPER, sequence, ("?",)])

    def test_read_from_their_ends(self):
        for paper, sequence, found, observations in ALL[::3]:
            back, seen = mirror(paper, sequence), observations[::-1]
            self.assertEqual(count_agreeing(paper, back, seen), count_agreeing(paper, sequence, observations))
            told = implied(paper, sequence, observations)
            self.assertEqual(implied(paper, back, seen), None if told is None else told[::-1])
            for collation in found[:2]:
                self.assertEqual(looks_of(paper, back, collation[::-1]), looks_of(paper, sequence, collation)[::-1])
                self.assertEqual(contradicted(collation[::-1], seen), contradicted(collation, observations))
            if found:
                self.assertEqual(
                    nearest_collation(paper, back, seen)[1], nearest_collation(paper, sequence, observations)[1]
                )


class OpenTest(unittest.TestCase):
    def test_some_pair_is_taken_exactly_if_the_opening_is_not_implied(self):
        for paper, sequence, found, observations in SHORT + LONG[::11]:
            if len(found) > 12:
                continue
            told = implied(paper, sequence, observations)
            for opening in range(1, len(sequence)):
                taken = [
                    (first, other) for first in found for other in found
                    if accepts_open(paper, sequence, observations, opening, (first, other))
                ]
                right = [
                    (first, other)
                    for first in agreeing(found, observations) if opening in centers(first)
                    for other in agreeing(found, observations) if opening not in centers(other)
                ]
                self.assertEqual(taken, right)
                self.assertEqual(taken != [], told is not None and told[opening - 1] == "?")
                if observations[opening - 1] != "?":
                    self.assertEqual(taken, [])

    def test_exchanged_or_the_same_one_twice(self):
        seen = ("?",) * 5
        self.assertIs(accepts_open(ONE, SIX, seen, 3, ((3,), (1, 2))), True)
        self.assertIs(accepts_open(ONE, SIX, seen, 3, ((1, 2), (3,))), False)
        for collation in [(3,), (1, 2), (1, 1, 1), (2, 1)]:
            for opening in range(1, 6):
                self.assertIs(accepts_open(ONE, SIX, seen, opening, (collation, collation)), False)

    def test_collations_that_do_not_agree(self):
        seen = ("?", "?", "t", "?", "?")
        self.assertIs(accepts_open(ONE, SIX, seen, 1, ((1, 1, 1), (3,))), True)
        self.assertIs(accepts_open(ONE, SIX, seen, 1, ((1, 2), (3,))), False)
        self.assertIs(accepts_open(ONE, SIX, seen, 1, ((1, 1, 1), (2, 1))), False)
        self.assertIs(accepts_open(ONE, SIX, ("n",) * 5, 1, ((1, 1, 1), (3,))), False)

    def test_where_somebody_looked(self):
        for look in "tn":
            for first in [(3,), (1, 2), (1, 1, 1), (2, 1)]:
                for other in [(3,), (1, 2), (1, 1, 1), (2, 1)]:
                    self.assertIs(accepts_open(ONE, SIX, ("?", "?", look, "?", "?"), 3, (first, other)), False)

    def test_pairs_that_are_changed_at_one_place(self):
        seen = ("t", "?", "?", "?", "?")
        for value in variants(((1, 1, 1), (1, 2))):
            told = accepts_open(ONE, SIX, seen, 3, value)
            exact = type(value) is tuple and len(value) == 2 and all(
                type(part) is tuple and all(type(item) is int for item in part) for part in value
            )
            self.assertIs(told, exact and value == ((1, 1, 1), (1, 2)))

    def test_judged_values_can_be_of_any_kind(self):
        others = [
            ((1, 1, 1),), ((1, 1, 1), (1, 2), ()), [(1, 1, 1), (1, 2)], ([1, 1, 1], (1, 2)), ((1, 1, 1), [1, 2]),
            ((True, 1, 1), (1, 2)), ((1, 1, 1), (True, 2)), ((1, 1, 1), (1, 3)), ((1, 1, 1), (1, 1)), ((1, 1), (1, 2)),
            ((1, 1, 1), ()), ((), (1, 2)), ((0, 3), (1, 2)), ((1, 1, 1), (-1, 4)), (DEEP, (1, 2)), ((1, 1, 1), DEEP),
            (DEEP_LIST, DEEP_LIST), ((1, 1, nested(100000)), (1, 2)), ((1,) * 100000, (1, 2)), ("111", "12"), "ab",
            ((1, 1, 1), (1, "2")), (Anything(), (1, 2)), ((1, 1, 1), Anything()), ((1, 1, Anything()), (1, 2)), (None, None),
        ]
        for value in OTHER_KINDS + others:
            self.assertIs(accepts_open(ONE, SIX, ("t", "?", "?", "?", "?"), 3, value), False)
            self.assertIs(accepts_open(ONE, SIX, ("?",) * 5, 3, value), False)
            self.assertIs(accepts_open((1, 0), (0, 0), ("?",), 1, value), False)


class ArgumentsTest(unittest.TestCase):
    def wrong_observations(self, openings):
        """Values that are no observations of so many openings."""
        good = ("?",) * openings
        found = [
            *OTHER_KINDS, good + ("?",), good[1:], good + good, (), list(good), "?" * openings, ("t",), ("?",) * 100000,
            {opening: "?" for opening in range(openings)},
        ]
        for item in [
            "", "T", "N", "t ", "x", "tn", "??", b"t", None, True, False, 0, 1, ("t",), ["t"], DEEP, DEEP_LIST, Anything(),
        ]:
            found += [(*good[:place], item, *good[place + 1:]) for place in range(openings)]
        return found

    def test_wrong_arguments_of_observations(self):
        for sequence in [(2, 2, 0, 1), (2,) * 16, (0, 0, 1)]:
            openings = len(sequence) - 1
            wrong = [("paper", wrong_papers()), ("sequence", wrong_sequences(PAPER))]
            wrong.append(("observations", self.wrong_observations(openings)))
            for observations in [("?",) * openings, ("t", "n", "?", *("n",) * openings)[:openings]]:
                good = [PAPER, sequence, observations]
                for function in (count_agreeing, nearest_collation, implied, fails_at, next_opening):
                    assert_checks(self, function, good, wrong)
                opening = ("opening", wrong_integers(1, openings))
                for place in (1, openings):
                    for value in (None, ((1, 1), (2,)), DEEP):
                        assert_checks(self, accepts_open, [*good, place, value], [*wrong, opening, ("value", [])])

    def test_openings_of_short_sequences(self):
        for sequence, observations in [((), ()), ((2,), ())]:
            for opening in [0, 1, 2, -1, True, None]:
                assert_bad(self, "opening", accepts_open, [PAPER, sequence, observations, opening, None])
        for opening in [0, 2, True, False]:
            assert_bad(self, "opening", accepts_open, [PAPER, (2, 2), ("?",), opening, None])
        self.assertIs(accepts_open(PAPER, (2, 2), ("?",), 1, None), False)

    def test_wrong_collations(self):
        sequence = (0, 1, 2, 2, 0, 1, 2, 2)
        wrong = [("paper", wrong_papers()), ("sequence", wrong_sequences(PAPER))]
        found = [
            *OTHER_KINDS, (), (4,), (2, 2), (1, 1, 1), (1, 1, 1, 1, 1), (1, 1, 2), [1, 3], (1, 3, 0), (True, 3), (1, 3.0),
            ("1", 3), (-1, 5), (1, 10 ** 30), (1,) * 100000, ((1, 3),), (1, DEEP),
        ]
        for good in [(1, 1, 1, 1), (1, 3), (3, 1)]:
            assert_checks(self, looks_of, [PAPER, sequence, good], [*wrong, ("collation", found)])
        for other in [(), (1,), (2,)]:
            assert_bad(self, "collation", looks_of, [(1, 0), (0, 0), other])
        assert_bad(self, "collation", looks_of, [PAPER, (2,), ()])
        assert_bad(self, "collation", looks_of, [PAPER, (), (1,)])

    def test_all_small_sequences(self):
        for paper in all_papers(2):
            for sequence in all_sequences(paper, 5):
                for observations in product("t?", repeat=max(0, len(sequence) - 1)):
                    self.assertEqual(
                        count_agreeing(paper, sequence, observations) > 0, fails_at(paper, sequence, observations) is None
                    )


if __name__ == "__main__":
    unittest.main()

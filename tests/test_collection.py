import unittest
from random import Random

from helper import (
    all_collations, assert_bad, assert_checks, assert_not_possible, assert_too_large, is_collatable, plain_act,
    plain_factors, wrong_commands, wrong_integers, wrong_papers, written,
)
from quiremarks.collection import Collection

PAPER = (1, 0, 2)


def all_commands(paper, sequences):
    """Every command for the paper, of those with a sequence the ones with these."""
    marks = range(len(paper))
    return [
        *[("book", sequence) for sequence in sequences],
        *[("leaf", book, mark) for book in range(6) for mark in marks],
        *[("set", book, leaf, mark) for book in range(6) for leaf in range(16) for mark in marks],
        *[("remove", book, leaf) for book in range(6) for leaf in range(16)],
    ]


def told(collection):
    """All that a collection tells."""
    books = collection.books()
    return (
        books, collection.journal(), collection.records(), [collection.factors(book) for book in range(len(books))],
        [[collection.partners(book, leaf) for leaf in range(len(leaves))] for book, leaves in enumerate(books)],
    )


def plain_partners(paper, sequence, leaf):
    """The leaves that can be conjugate to the leaf, among all collations of the leaves of the factors so far."""
    _, rest = plain_factors(paper, sequence)
    ahead = sequence[:len(sequence) - len(rest)]
    found = set()
    for collation in all_collations(paper, ahead):
        begin = 0
        for sheets in collation:
            if begin <= leaf < begin + 2 * sheets:
                found.add(2 * begin + 2 * sheets - 1 - leaf)
            begin += 2 * sheets
    return tuple(sorted(found))


def commands_for(number, paper):
    """A chance sequence of commands, most of them possible, so that books get long and there are many of them."""
    chance = Random(number)
    marks = range(len(paper))
    # Few different marks, so that there are gatherings.
    likely = [chance.choice(marks) for _ in range(2)]
    likely += [paper[mark] for mark in likely]
    found = []
    for _ in range(40):
        book, leaf = chance.choice([0, 0, 0, 1, 2, 5]), chance.choice([0, 1, 2, 3, 5, 15])
        word = chance.choice(["book", "leaf", "leaf", "leaf", "leaf", "set", "remove"])
        if word == "book":
            found.append(("book", tuple(chance.choice(likely) for _ in range(chance.choice([0, 0, 1, 4, 8, 15, 16])))))
        elif word == "leaf":
            found.append(("leaf", book, chance.choice(likely)))
        else:
            found.append((word, book, leaf, chance.choice(marks)) if word == "set" else (word, book, leaf))
    return found


def acted(paper, commands):
    """A collection that carried out those of the commands that are possible, up to twenty of them."""
    collection, books = Collection(paper), ()
    for command in commands:
        why, _, after = plain_act(paper, books, command)
        if why is None and len(collection.journal()) < 20:
            collection.act(command)
            books = after
    return collection


RUNS = [(paper, commands_for(number, paper)) for number, paper in enumerate([PAPER, (0,), (1, 0), (0, 1), (2, 1, 0)] * 12)]
FULL = [("book", (2,) * many) for many in (16, 15, 0, 1, 16, 2)]


class CollectionTest(unittest.TestCase):
    def test_examples(self):
        collection = Collection(PAPER)
        self.assertEqual((collection.act(("book", ())), collection.act(("leaf", 0, 0))), (0, None))
        self.assertEqual((collection.act(("leaf", 0, 1)), collection.act(("leaf", 0, 0))), ((0, 1), None))
        self.assertEqual((collection.factors(0), collection.partners(0, 2)), ((((0, 1),), (0,)), ()))
        self.assertEqual((collection.act(("leaf", 0, 1)), collection.partners(0, 1)), ((0, 1), (0, 2)))
        self.assertEqual((collection.act(("set", 0, 3, 2)), collection.factors(0)), (1, (((0, 1),), (0, 2))))
        self.assertEqual((collection.undo(), collection.books()), (("set", 0, 3, 2), ((0, 1, 0, 1),)))
        self.assertEqual((collection.act(("book", (0, 1, 1, 0))), collection.act(("remove", 1, 0))), (1, 0))
        self.assertEqual(collection.factors(1), ((), (1, 1, 0)))

    def test_examples_of_point_144(self):
        collection = Collection((1, 0))
        collection.act(("book", ()))
        self.assertEqual([collection.act(("leaf", 0, mark)) for mark in (0, 1)], [None, (0, 1)])
        self.assertEqual([collection.act(("leaf", 0, mark)) for mark in (0, 1)], [None, (0, 1)])
        self.assertEqual(collection.partners(0, 1), (0, 2))

    def test_a_new_collection(self):
        collection = Collection(PAPER)
        self.assertEqual((collection.books(), collection.journal(), collection.records()), ((), (), ()))
        self.assertIsNone(collection.undo())
        self.assertIsNot(Collection(PAPER), collection)
        assert_checks(self, Collection, [PAPER], [("paper", wrong_papers())])

    def test_commands_one_after_another(self):
        whys = set()
        for paper, commands in RUNS:
            collection, books, lines = Collection(paper), (), []
            for command in commands:
                why, value, after = plain_act(paper, books, command)
                whys.add(why)
                if why is not None:
                    assert_not_possible(self, why, collection.act, [command])
                elif len(lines) == 20:
                    assert_too_large(self, "commands", collection.act, [command])
                else:
                    self.assertEqual(written(collection.act(command)), written(value))
                    books = after
                    lines.append((command, value))
                self.assertEqual(collection.books(), books)
                self.assertEqual(collection.records(), tuple(lines))
                self.assertEqual(collection.journal(), tuple(line[0] for line in lines))
                for book, leaves in enumerate(books):
                    self.assertEqual(collection.factors(book), plain_factors(paper, leaves))
        self.assertEqual(whys, {None, "books", "missing", "full"})

    def test_every_command_possible_or_not(self):
        sequences = [(), (0,), (2,) * 16, (0, 1, 2) * 5]
        states = [[], FULL[:1], FULL[1:3], FULL[:5], FULL, [("book", (0, 1, 2, 2, 0, 1, 0))], [*FULL[:4], ("leaf", 1, 2)]]
        for commands in states:
            collection = acted(PAPER, commands)
            before, books = told(collection), collection.books()
            for command in all_commands(PAPER, sequences):
                why, value, after = plain_act(PAPER, books, command)
                if why is None:
                    self.assertEqual(written(collection.act(command)), written(value))
                    self.assertEqual(collection.books(), after)
                    self.assertEqual(collection.undo(), command)
                else:
                    assert_not_possible(self, why, collection.act, [command])
                self.assertEqual(collection.books(), books)
                self.assertEqual(collection.journal(), before[1])
            self.assertEqual(told(collection), before)

    def test_bounds(self):
        collection = acted(PAPER, FULL)
        self.assertEqual(len(collection.books()), 6)
        assert_not_possible(self, "books", collection.act, [("book", ())])
        for book in (0, 4):
            assert_not_possible(self, "full", collection.act, [("leaf", book, 0)])
            self.assertEqual(collection.act(("set", book, 15, 0)), 2)
            self.assertEqual(collection.act(("remove", book, 15)), 0)
            self.assertEqual(collection.act(("leaf", book, 2)), (2, 2))
        self.assertEqual(collection.act(("leaf", 1, 2)), (2, 2))
        for leaf in (0, 15):
            for command in [("set", 2, leaf, 0), ("remove", 2, leaf)]:
                assert_not_possible(self, "missing", collection.act, [command])
        for command in [("set", 3, 1, 0), ("remove", 3, 1), ("set", 5, 2, 0), ("remove", 5, 15)]:
            assert_not_possible(self, "missing", collection.act, [command])
        few = acted(PAPER, FULL[:5])
        for command in [("leaf", 5, 0), ("set", 5, 0, 0), ("remove", 5, 0)]:
            assert_not_possible(self, "missing", few.act, [command])
        self.assertEqual(few.act(("book", ())), 5)
        self.assertEqual(few.books()[5], ())

    def test_a_leaf_completes_a_factor(self):
        for paper, commands in RUNS:
            books = ()
            collection = Collection(paper)
            for command in acted(paper, commands).journal():
                before = None if command[0] != "leaf" else collection.factors(command[1])
                value = collection.act(command)
                if before is not None:
                    factors, rest = collection.factors(command[1])
                    self.assertEqual(factors[:len(before[0])], before[0])
                    complete = (*before[1], command[2])
                    gathering = len(complete) % 2 == 0 and complete == tuple(paper[mark] for mark in complete[::-1])
                    self.assertEqual(value, complete if gathering else None)
                    self.assertEqual((factors, rest), ((*before[0], complete), ()) if gathering else (before[0], complete))
                books = collection.books()
            self.assertEqual(len(books), len(collection.books()))

    def test_values_of_their_kinds(self):
        collection = acted(PAPER, [("book", (0, 1))])
        for command, value in [
            (("book", ()), 1), (("set", 0, 0, 1), 0), (("set", 0, 0, 0), 1), (("set", 0, 1, 1), 1), (("remove", 0, 0), 0),
            (("leaf", 1, 2), None), (("leaf", 1, 2), (2, 2)), (("leaf", 0, 0), (1, 0)),
        ]:
            self.assertEqual(written(collection.act(command)), written(value))
        self.assertEqual(collection.books(), ((1, 0), (2, 2)))
        for value in (collection.books(), collection.journal(), collection.records(), collection.factors(0), *collection.books(),
                      collection.factors(0)[0], collection.factors(0)[0][0], collection.factors(0)[1],
                      collection.partners(0, 0), *collection.records()):
            self.assertIs(type(value), tuple)

    def test_partners_against_all_collations(self):
        some = set()
        books = [(2,) * 16, (0, 1) * 8, (0, 1, 2, 2) * 4, (0, 1) * 5 + (0, 0, 2), (0, 1, 1, 0, 2), (0,) * 5, (2, 2, 2, 2, 0)]
        sequences = {(PAPER, sequence) for sequence in books}
        for paper, commands in RUNS[::2]:
            sequences |= {(paper, sequence) for sequence in acted(paper, commands).books()}
        for paper, sequence in sorted(sequences):
            collection = acted(paper, [("book", sequence)])
            _, rest = collection.factors(0)
            for leaf in range(len(sequence)):
                found = collection.partners(0, leaf)
                self.assertEqual(found, plain_partners(paper, sequence, leaf))
                self.assertEqual(found == (), leaf >= len(sequence) - len(rest))
                some.add(min(2, len(found)))
        self.assertEqual(some, {0, 1, 2})

    def test_what_can_be_conjugate_still_can_be(self):
        for paper, leaves in [(PAPER, (0, 1) * 8), ((0,), (0,) * 16), (PAPER, (2, 2, 2, 2, 0, 1, 0, 0, 1, 1, 2, 1, 1, 0, 0, 2))]:
            collection = acted(paper, [("book", ())])
            known = []
            for many, mark in enumerate(leaves):
                collection.act(("leaf", 0, mark))
                found = [collection.partners(0, leaf) for leaf in range(many + 1)]
                for before, after in zip(known, found):
                    self.assertLessEqual(set(before), set(after))
                known = found

    def test_what_is_collatable_no_longer_is(self):
        books = [(), (2, 2), (0, 1, 0, 1), (0, 0, 1, 1), (0, 1, 1, 0, 2, 2), (2,) * 14, (2, 0, 1, 2, 0, 1, 2, 2)]
        for sequence in books:
            self.assertTrue(is_collatable(PAPER, sequence))
            commands = [("leaf", 0, mark) for mark in range(3)] + [("remove", 0, leaf) for leaf in range(len(sequence))]
            commands += [
                ("set", 0, leaf, mark) for leaf in range(len(sequence)) for mark in range(3) if mark != sequence[leaf]
            ]
            collection = acted(PAPER, [("book", sequence)])
            self.assertEqual(collection.factors(0)[1], ())
            for command in commands:
                collection.act(command)
                self.assertNotEqual(collection.factors(0)[1], ())
                collection.undo()
            for leaf, mark in enumerate(sequence[:10]):
                self.assertEqual(collection.act(("set", 0, leaf, mark)), mark)
                self.assertEqual(collection.factors(0)[1], ())


class UndoTest(unittest.TestCase):
    def test_undo_back_to_the_beginning(self):
        for paper, commands in RUNS:
            collection = Collection(paper)
            states = [told(collection)]
            for command in acted(paper, commands).journal():
                collection.act(command)
                states.append(told(collection))
            while len(states) > 1:
                self.assertEqual(told(collection), states.pop())
                journal = collection.journal()
                self.assertEqual(collection.undo(), journal[-1])
                self.assertEqual(collection.journal(), journal[:-1])
            self.assertEqual(told(collection), states[0])
            for _ in range(3):
                self.assertIsNone(collection.undo())
                self.assertEqual(told(collection), ((), (), (), [], []))

    def test_undone_and_done_again(self):
        for paper, commands in RUNS[::3]:
            collection = acted(paper, commands)
            before = told(collection)
            undone = [collection.undo() for _ in collection.journal()]
            for command in undone[::-1]:
                collection.act(command)
            self.assertEqual(told(collection), before)

    def test_the_twenty_first_command(self):
        collection = Collection(PAPER)
        self.assertEqual(collection.act(("book", (0, 1))), 0)
        for number in range(19):
            self.assertEqual(collection.act(("set", 0, 0, number % 3)), (number - 1) % 3 if number else 0)
        self.assertEqual(len(collection.journal()), 20)
        before = told(collection)
        for command in [("book", ()), ("leaf", 0, 0), ("set", 0, 1, 1), ("remove", 0, 1), ("set", 0, 0, 0)]:
            assert_too_large(self, "commands", collection.act, [command])
            self.assertEqual(told(collection), before)
        # A command of a wrong form, or one that is not possible, comes ahead of it.
        for command in wrong_commands():
            assert_bad(self, "command", collection.act, [command])
        for command in [("leaf", 1, 0), ("set", 0, 2, 0), ("remove", 5, 0), ("remove", 0, 2)]:
            assert_not_possible(self, "missing", collection.act, [command])
        collection.undo()
        self.assertEqual(collection.act(("leaf", 0, 1)), None)
        assert_too_large(self, "commands", collection.act, [("leaf", 0, 1)])

    def test_not_possible_comes_ahead_of_too_large(self):
        collection = acted(PAPER, [*FULL, *[("set", 0, 0, number % 3) for number in range(14)]])
        self.assertEqual(len(collection.journal()), 20)
        assert_not_possible(self, "books", collection.act, [("book", ())])
        assert_not_possible(self, "full", collection.act, [("leaf", 4, 0)])
        assert_not_possible(self, "missing", collection.act, [("remove", 2, 0)])
        assert_too_large(self, "commands", collection.act, [("leaf", 2, 0)])


class TwinTest(unittest.TestCase):
    def test_twins_changed_one_after_the_other(self):
        for paper, commands in RUNS[::2]:
            collection = acted(paper, commands)
            twin = collection.twin()
            self.assertIs(type(twin), Collection)
            self.assertIsNot(twin, collection)
            before = told(collection)
            self.assertEqual(told(twin), before)
            while twin.undo() is not None:
                self.assertEqual(told(collection), before)
            twin.act(("book", (0,)))
            twin.act(("leaf", 0, 0))
            self.assertEqual(told(collection), before)
            kept = told(twin)
            collection.undo()
            if len(collection.books()) < 6:
                collection.act(("book", ()))
            self.assertEqual(told(twin), kept)
            self.assertEqual(twin.twin().records(), twin.records())

    def test_a_twin_undoes_what_was_done_before(self):
        collection = acted(PAPER, [("book", (0, 1)), ("leaf", 0, 2)])
        twin = collection.twin()
        self.assertEqual(collection.undo(), ("leaf", 0, 2))
        self.assertEqual((twin.undo(), twin.undo(), twin.undo()), (("leaf", 0, 2), ("book", (0, 1)), None))
        self.assertEqual((collection.books(), twin.books()), (((0, 1),), ()))

    def test_no_other_book_changes(self):
        for paper, commands in RUNS:
            collection = Collection(paper)
            for command in acted(paper, commands).journal():
                before = collection.books()
                collection.act(command)
                after = collection.books()
                if command[0] == "book":
                    self.assertEqual(after, (*before, command[1]))
                else:
                    self.assertEqual(len(after), len(before))
                    for book, leaves in enumerate(before):
                        if book != command[1]:
                            self.assertEqual(after[book], leaves)


class ArgumentsTest(unittest.TestCase):
    def test_wrong_commands(self):
        for commands in ([], [("book", (0, 1, 2))], FULL):
            collection = acted(PAPER, commands)
            before = told(collection)
            for command in wrong_commands():
                assert_bad(self, "command", collection.act, [command])
            self.assertEqual(told(collection), before)

    def test_commands_of_other_papers(self):
        collection = Collection((0, 1))
        for command in [("book", (2,)), ("book", (0, 1, 2)), ("leaf", 0, 2), ("set", 0, 0, 2), ("set", 5, 15, 2)]:
            assert_bad(self, "command", collection.act, [command])
            assert_bad(self, "command", acted((0, 1), FULL[2:3]).act, [command])
            self.assertIsNone(Collection(PAPER).undo())
        self.assertEqual(acted(PAPER, [("book", (0,))]).act(("leaf", 0, 2)), None)

    def test_wrong_books_and_leaves(self):
        for commands in ([], [("book", (0, 1, 2))], FULL):
            collection = acted(PAPER, commands)
            for book in wrong_integers(0, 5):
                assert_bad(self, "book", collection.factors, [book])
                for leaf in (0, 15, 16, -1, None, True, "0"):
                    assert_bad(self, "book", collection.partners, [book, leaf])
            for leaf in wrong_integers(0, 15):
                for book in (0, 5):
                    assert_bad(self, "leaf", collection.partners, [book, leaf])
            self.assertEqual(collection.journal(), tuple(commands))

    def test_books_and_leaves_that_are_missing(self):
        for many in range(7):
            collection = acted(PAPER, FULL[:many])
            for book in range(6):
                if book >= many:
                    assert_not_possible(self, "missing", collection.factors, [book])
                for leaf in range(16):
                    if book >= many or leaf >= len(FULL[book][1]):
                        assert_not_possible(self, "missing", collection.partners, [book, leaf])
                    else:
                        self.assertIs(type(collection.partners(book, leaf)), tuple)


if __name__ == "__main__":
    unittest.main()

import unittest
from itertools import product
from random import Random

from helper import (
    DEEP, DEEP_LIST, OTHER_KINDS, Anything, assert_bad, assert_checks, assert_judge, assert_not_possible, nested,
    plain_act, variants, wrong_commands, wrong_papers, written,
)
from quiremarks.collection import Collection
from quiremarks.journals import are_right, replayed

PAPER = (1, 0, 2)
LINES = (
    (("book", (0, 1)), 0), (("leaf", 0, 0), None), (("leaf", 0, 1), (0, 1)), (("set", 0, 1, 2), 1), (("book", ()), 1),
    (("remove", 0, 0), 0), (("leaf", 1, 2), None), (("leaf", 1, 2), (2, 2)),
)


def plain_records(paper, journal):
    """The records of the commands, or None if one of them is not possible."""
    found, books = [], ()
    for command in journal:
        why, value, books = plain_act(paper, books, command)
        if why is not None:
            return None
        found.append((command, value))
    return tuple(found)


def chance_journal(number, paper, most=20):
    """So many commands that are possible one after another."""
    chance = Random(number)
    found, books = [], ()
    while len(found) < most:
        book, leaf, mark = chance.randrange(3), chance.randrange(8), chance.randrange(len(paper))
        sequence = tuple(chance.randrange(len(paper)) for _ in range(chance.randrange(6)))
        command = chance.choice([
            ("book", sequence), ("leaf", book, mark), ("leaf", book, paper[mark]), ("set", book, leaf, mark), ("remove", book, leaf),
        ])
        why, _, after = plain_act(paper, books, command)
        if why is None:
            books = after
            found.append(command)
    return tuple(found)


JOURNALS = [(paper, chance_journal(number, paper)) for number, paper in enumerate([PAPER, (0,), (1, 0), (0, 1)] * 8)]


class ReplayedTest(unittest.TestCase):
    def test_examples(self):
        self.assertEqual(replayed((0,), (("book", (0, 0)), ("remove", 0, 1))).books(), ((0,),))

    def test_replayed_is_the_same(self):
        for paper, journal in JOURNALS:
            for many in (0, 1, 5, 19, 20):
                collection = replayed(paper, journal[:many])
                other = Collection(paper)
                for command in journal[:many]:
                    other.act(command)
                self.assertIs(type(collection), Collection)
                self.assertEqual(collection.journal(), journal[:many])
                self.assertEqual(collection.records(), plain_records(paper, journal[:many]))
                self.assertEqual((collection.books(), collection.records()), (other.books(), other.records()))
                for book in range(len(other.books())):
                    self.assertEqual(collection.factors(book), other.factors(book))

    def test_replayed_is_undone_to_the_beginning(self):
        for paper, journal in JOURNALS:
            collection = replayed(paper, journal)
            self.assertEqual([collection.undo() for _ in journal], list(journal[::-1]))
            self.assertIsNone(collection.undo())
            self.assertEqual(collection.books(), ())

    def test_what_it_tells_depends_on_paper_and_journal_alone(self):
        for paper, journal in JOURNALS:
            there_and_back = Collection(paper)
            for place in range(len(journal)):
                # Two commands further than the next one, and back again.
                for command in journal[place:place + 3]:
                    there_and_back.act(command)
                for _ in journal[place + 1:place + 3]:
                    there_and_back.undo()
                again = replayed(paper, journal[:place + 1])
                for other in (there_and_back, there_and_back.twin()):
                    self.assertEqual((again.books(), again.records()), (other.books(), other.records()))

    def test_commands_that_are_not_possible(self):
        for why, journal in [
            ("missing", [("leaf", 0, 0)]), ("missing", [("book", ()), ("remove", 0, 0)]), ("books", [("book", ())] * 7),
            ("missing", [("book", (0,)), ("set", 0, 1, 0), ("leaf", 5, 0)]), ("full", [("book", (0,) * 16), ("leaf", 0, 0)]),
            ("full", [("book", (0,) * 15), ("leaf", 0, 0), ("leaf", 0, 0), ("remove", 3, 0)]),
            ("books", [("book", ())] * 20), ("missing", [("book", (1,))] + [("remove", 0, 0)] * 19),
        ]:
            assert_not_possible(self, why, replayed, [PAPER, tuple(journal)])
            # The form of all commands is looked at before any is carried out.
            for wrong in [("leaf", 6, 0), ("book", (3,)), None, ["book", ()]]:
                assert_bad(self, "journal", replayed, [PAPER, (*journal[:-1], journal[-1], wrong)])

    def test_twenty_and_twenty_one_commands(self):
        journal = (("book", ()),) + (("leaf", 0, 2),) * 16 + (("remove", 0, 0),) * 3
        collection = replayed(PAPER, journal)
        self.assertEqual((len(collection.journal()), collection.books()), (20, ((2,) * 13,)))
        assert_bad(self, "journal", replayed, [PAPER, journal + (("remove", 0, 0),)])
        assert_bad(self, "journal", replayed, [PAPER, (("leaf", 0, 0),) * 21])

    def test_wrong_arguments(self):
        good = ("book", (0, 1))
        found = [value for value in OTHER_KINDS if type(value) is not tuple or len(value) > 0]
        found += [[], [good], list((good,)), good, (good,) * 21, ((good,),), {0: good}, (good, (good, 0)), "book"]
        for command in wrong_commands():
            found += [(command,), (good, command), (command, good)]
        for journal in [(), (good,), (good, ("leaf", 0, 2)), (good,) * 6]:
            assert_checks(self, replayed, [PAPER, journal], [("paper", wrong_papers()), ("journal", found)])
        for command in [("book", (2,)), ("leaf", 0, 2), ("set", 0, 0, 2)]:
            assert_bad(self, "journal", replayed, [(0, 1), (good, command)])


class RightTest(unittest.TestCase):
    def test_examples(self):
        self.assertIs(are_right((0,), ((("book", (0,)), 0), (("leaf", 0, 0), (0, 0)))), True)

    def test_the_records_of_collections_are_right(self):
        for paper, journal in JOURNALS:
            records = replayed(paper, journal).records()
            for many in range(21):
                self.assertIs(are_right(paper, records[:many]), True)
            self.assertIs(are_right(paper, list(records)), False)

    def test_no_others_with_these_commands_are(self):
        for paper, journal in JOURNALS[::3]:
            records = plain_records(paper, journal)
            for place, (command, value) in enumerate(records):
                others = [None, True, False, 0, 1, 2, -1, "", (), [], "0", (0,), (0, 1), (2, 2), DEEP, DEEP_LIST, Anything()]
                if type(value) is int:
                    others += [value + 1, value - 1, bool(value), float(value), str(value), (value,), value + 10 ** 30]
                if type(value) is tuple:
                    others += [
                        list(value), value[:-1], value + (0,), value[::-1], (value,), (*value[:-1], bool(value[-1])), value + value,
                        tuple(bool(mark) for mark in value), tuple(str(mark) for mark in value), (*value[:-1], DEEP),
                    ]
                for other in others:
                    right = written(other) == written(value)
                    changed = (*records[:place], (command, other), *records[place + 1:])
                    self.assertIs(are_right(paper, changed), right)
                    self.assertIs(are_right(paper, changed[:place + 1]), right)

    def test_other_commands(self):
        for paper, journal in JOURNALS[::3]:
            records = plain_records(paper, journal)
            commands = [
                ("book", ()), ("book", (0,)), ("leaf", 0, 0), ("leaf", 1, 0), ("leaf", 5, 0), ("set", 0, 0, 0), ("set", 1, 1, 0),
                ("set", 0, 15, 0), ("remove", 0, 0), ("remove", 1, 1), ("remove", 5, 15),
            ]
            for place, (_, value) in enumerate(records):
                for command in commands:
                    changed = (*records[:place], (command, value), *records[place + 1:])
                    told = plain_records(paper, [record[0] for record in changed])
                    self.assertIs(are_right(paper, changed), told is not None and written(told) == written(changed))

    def test_records_left_out_put_in_or_exchanged(self):
        for paper, journal in JOURNALS:
            records = plain_records(paper, journal[:19])
            changes = []
            for place in range(19):
                changes.append(records[:place] + records[place + 1:])
                changes.append(records[:place + 1] + records[place:])
                changes.append(records[:place] + records[place:place + 2][::-1] + records[place + 2:])
                changes.append(records[:place] + ((("book", ()), 0),) + records[place:])
            for changed in changes:
                told = plain_records(paper, [record[0] for record in changed])
                self.assertIs(are_right(paper, changed), told is not None and written(told) == written(changed))

    def test_records_that_are_changed_at_one_place(self):
        for many in range(len(LINES) + 1):
            values = variants(LINES[:many])
            for value in values:
                self.assertIs(are_right(PAPER, value), self.is_right(value))

    def is_right(self, value):
        """Whether the records are right, of values that are near to right ones."""
        if type(value) is not tuple or len(value) > 20:
            return False
        journal = []
        for record in value:
            if type(record) is not tuple or len(record) != 2:
                return False
            if written(record[0]) not in WRITTEN_COMMANDS:
                return False
            journal.append(record[0])
        told = plain_records(PAPER, journal)
        return told is not None and written(told) == written(value)

    def test_twenty_and_twenty_one_records(self):
        journal = (("book", ()),) + (("leaf", 0, 2),) * 16 + (("remove", 0, 0),) * 3
        records = plain_records(PAPER, journal)
        self.assertIs(are_right(PAPER, records), True)
        self.assertIs(are_right(PAPER, records + ((("remove", 0, 0), 2),)), False)
        self.assertIs(are_right(PAPER, records[:19] + ((("remove", 0, 0), 2),)), True)
        self.assertIs(are_right(PAPER, ((("book", ()), 0),) * 21), False)
        self.assertIs(are_right(PAPER, tuple((("book", ()), book) for book in range(6))), True)
        self.assertIs(are_right(PAPER, tuple((("book", ()), book) for book in range(7))), False)

    def test_short_records_against_carrying_them_out(self):
        commands = [("book", ()), ("book", (0,)), ("leaf", 0, 1), ("leaf", 1, 0), ("set", 0, 0, 1), ("remove", 0, 0)]
        values = [None, 0, 1, (0, 1), (1, 0)]
        records = list(product(commands, values))
        for many in range(3):
            right = [
                told for told in (plain_records(PAPER, row) for row in product(commands, repeat=many)) if told is not None
            ]
            assert_judge(self, are_right, [PAPER], right, product(records, repeat=many))

    def test_judged_values_can_be_of_any_kind(self):
        line = (("book", (0,)), 0)
        others = [
            line, [line], (list(line),), (line + (0,),), (line[:1],), ((["book", (0,)], 0),), ((("book", [0]), 0),),
            ((("book", (0,)), False),), ((("book", (0,)), 0.0),), ((("book", (0,)), "0"),), ((("book", (0,)), (0,)),),
            ((("book", (0,)), DEEP),), ((("book", DEEP), 0),), ((DEEP, 0),), ((DEEP, DEEP),), (line, DEEP), (line, DEEP_LIST),
            ((DEEP_LIST, 0),), ((("book", (0,)), Anything()),), ((Anything(), 0),), (Anything(), Anything()), (line,) * 100000,
            ((("book", (0,)), nested(100000, list)),), (line, (("leaf", 0, 1), [0, 1])), (line, (("leaf", 0, 1), (False, 1))),
            (line, (("leaf", 0, 1), (0, True))), (line, (("leaf", 0, 1), DEEP)), (line, (("leaf", 0, 1), (0, DEEP))),
            (line, (("leaf", 0, 1), (0, 1, DEEP))), (line, (("leaf", 0, 0), 0)), (line, (("leaf", 0, 0), False)),
            (line, (("leaf", 0, 0), ())), (line, (("leaf", 0, 0), Anything())), (line, (("leaf", 0, 1), Anything())),
            (line, (("leaf", 0, 1), (0, Anything()))), (line, (("leaf", 0, 1), (0,) * 100000)), "ab", {line: 0},
        ]
        for value in OTHER_KINDS + others:
            self.assertIs(are_right(PAPER, value), type(value) is tuple and len(value) == 0)
        for command in wrong_commands():
            for value in (None, 0, (0, 1)):
                self.assertIs(are_right(PAPER, ((command, value),)), False)
                self.assertIs(are_right(PAPER, (line, (command, value))), False)
        self.assertIs(are_right(PAPER, ()), True)

    def test_wrong_arguments(self):
        for value in (None, (), LINES, DEEP):
            assert_checks(self, are_right, [PAPER, value], [("paper", wrong_papers()), ("records", [])])
        self.assertIs(are_right((0, 1), ((("book", (2,)), 0),)), False)


WRITTEN_COMMANDS = {
    *[written(("leaf", book, mark)) for book in range(6) for mark in range(3)],
    *[written(("set", book, leaf, mark)) for book in range(6) for leaf in range(16) for mark in range(3)],
    *[written(("remove", book, leaf)) for book in range(6) for leaf in range(16)],
    *[written(("book", sequence)) for many in range(5) for sequence in product(range(3), repeat=many)],
}


if __name__ == "__main__":
    unittest.main()

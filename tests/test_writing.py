import unittest
from itertools import product

from helper import (
    DEEP, OTHER_KINDS, all_papers, all_sequences, assert_checks, compositions, wrong_papers, wrong_sequences,
)
from quiremarks.reading import read_book, read_collation
from quiremarks.scanning import scan
from quiremarks.writing import book_text, collation_text

LETTERS = "abcdef"


def plain_text(paper, sequence):
    words = []
    for mark, counterpart in enumerate(paper):
        if counterpart == mark:
            words.append(LETTERS[mark])
        if counterpart > mark:
            words.append(LETTERS[mark] + LETTERS[counterpart])
    leaves = "".join(LETTERS[mark] for mark in sequence)
    return " ".join(words) + ":" + (" " + leaves if leaves else "")


class WritingTest(unittest.TestCase):
    def test_examples(self):
        self.assertEqual(book_text((1, 0, 3, 2), (0, 3)), "ab cd: ad")
        self.assertEqual(book_text((0, 2, 1), ()), "a bc:")
        self.assertEqual(collation_text((3, 1)), "3 1")
        # Point 131.
        self.assertEqual(book_text((1, 0, 2), (0, 1, 1, 0)), "ab c: abba")

    def test_books_of_all_papers_are_read_back(self):
        for paper in all_papers(6):
            marks = tuple(range(len(paper)))
            for many in range(17):
                for sequence in [(marks * 16)[:many], (marks[::-1] * 16)[:many], (marks[-1],) * many]:
                    text = book_text(paper, sequence)
                    self.assertEqual(text, plain_text(paper, sequence))
                    self.assertEqual(read_book(text), (paper, sequence))

    def test_short_books_are_read_back(self):
        for paper in all_papers(3):
            for sequence in all_sequences(paper, 4):
                self.assertEqual(book_text(paper, sequence), plain_text(paper, sequence))
                self.assertEqual(read_book(book_text(paper, sequence)), (paper, sequence))

    def test_the_words_of_a_paper_in_their_order(self):
        self.assertEqual(book_text((5, 4, 3, 2, 1, 0), ()), "af be cd:")
        self.assertEqual(book_text((0, 3, 2, 1, 5, 4), (5,)), "a bd c ef: f")
        self.assertEqual(book_text((0,), (0,) * 16), "a: " + "a" * 16)

    def test_collations_are_read_back(self):
        for sheets in range(9):
            for collation in compositions(sheets):
                text = collation_text(collation)
                self.assertEqual(text, " ".join(str(many) for many in collation))
                self.assertEqual(read_collation(text), collation)
        self.assertEqual(collation_text(()), "")

    def test_blanks_between_tokens_change_nothing_but_columns(self):
        for paper, sequence in product(all_papers(4), [(), (0,), (0, 0)]):
            tokens = scan(book_text(paper, sequence))
            for blanks in ("", " ", "   "):
                text = blanks + (blanks or " ").join(characters for _, characters, _ in tokens) + blanks
                self.assertEqual([token[:2] for token in scan(text)], [token[:2] for token in tokens])
                self.assertEqual(read_book(text), (paper, sequence))

    def test_wrong_arguments(self):
        wrong = [("paper", wrong_papers()), ("sequence", wrong_sequences((1, 0, 2)))]
        for sequence in [(), (0, 1, 1, 0), (2,) * 16]:
            assert_checks(self, book_text, [(1, 0, 2), sequence], wrong)
        others = [value for value in OTHER_KINDS if type(value) is not tuple or len(value) > 0]
        others += [
            (0,), (9,), (8, 1), (1,) * 9, (1, 0), (0, 1), (9, -1), (-1,), (True,), (1, True), (1.0,), ("1",), [1], [], [3, 1],
            "3 1", 8, (10 ** 30,), (-10 ** 30,), (1, DEEP), ((1,),), (1,) * 100000, (8, 0), (4, 5), {1: 1},
        ]
        for good in [(), (3, 1), (8,), (1,) * 8]:
            assert_checks(self, collation_text, [good], [("collation", others)])


if __name__ == "__main__":
    unittest.main()

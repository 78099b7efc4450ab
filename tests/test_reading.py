import unittest
from itertools import product

from helper import Anything, assert_bad, assert_checks, assert_text_error, compositions, wrong_texts
from quiremarks.reading import next_tokens, read_book, read_collation

NO_TOKEN = "no token begins here"
MANY_DIGITS = "a number has at most 6 digits"
MANY_LETTERS = "a word has 1 or 2 letters here"
TWICE = "this mark stands already"
MISSING = "a mark is missing"
MANY_LEAVES = "there are at most 16 leaves"
NO_MARK = "there is no such mark"
NO_SHEET = "a gathering has a sheet"
MANY_SHEETS = "there are at most 8 sheets"

# Tokens of a text of each kind, and what can come behind them.
BEHIND = {
    "book": [
        ("", ["a word"]), ("ab", ["a word", '":"']), ("a b cd", ["a word", '":"']), ("aaa ff", ["a word", '":"']),
        ("a:", ["a word", "the end"]), ("ab c: abba", ["a word", "the end"]), ("f: f a", ["a word", "the end"]),
    ],
    "collation": [("", ["a number", "the end"]), ("2", ["a number", "the end"]), ("0 99 000000", ["a number", "the end"])],
}
# What cannot come behind these tokens, with the words of the problem.
EXPECTED = {
    "book": [
        ("", [":", "1", "01", ":a", "1a"], "expected a word"), ("a", ["1", "23"], 'expected a word or ":"'),
        ("a bc", ["1", "0 :"], 'expected a word or ":"'), ("a:", [":", "1", ": a"], "expected a word or the end"),
        ("a: ab", [":", "1", "1a"], "expected a word or the end"),
    ],
    "collation": [
        ("", ["a", ":", "a1"], "expected a number or the end"), ("2 1", ["a", ":", ": 1"], "expected a number or the end"),
        ("0", ["f", "::"], "expected a number or the end"),
    ],
}
READ = {"book": read_book, "collation": read_collation}


class NextTokensTest(unittest.TestCase):
    def test_examples(self):
        self.assertEqual(next_tokens("", "book"), ["a word"])
        self.assertEqual(next_tokens("ab", "book"), ["a word", '":"'])
        self.assertEqual(next_tokens("ab:", "book"), ["a word", "the end"])
        self.assertEqual(next_tokens("2", "collation"), ["a number", "the end"])

    def test_at_each_place_of_the_grammar_with_blanks(self):
        for kind, rows in BEHIND.items():
            for tokens, words in rows:
                for ahead, behind in product(["", " ", "    "], repeat=2):
                    self.assertEqual(next_tokens(ahead + tokens + behind, kind), words)
                    self.assertEqual(next_tokens(ahead + tokens.replace(" ", "  ").replace(":", " :") + behind, kind), words)

    def test_a_token_that_cannot_come(self):
        for kind, rows in EXPECTED.items():
            for ahead, ends, words in rows:
                for end, blanks in product(ends, ["", " ", "   "]):
                    if ahead[-1:].isdigit() and end[0].isdigit() and blanks == "":
                        continue
                    text = ahead + blanks + end
                    column = len(ahead + blanks) + 1
                    assert_text_error(self, column, words, next_tokens, [text, kind])
                    assert_text_error(self, column, words, READ[kind], [text])
                    # What comes behind it changes nothing but for tokens with a problem.
                    assert_text_error(self, column, words, next_tokens, [text + " : 1 a", kind])
                    assert_text_error(self, column, words, READ[kind], [text + " : 1 a"])

    def test_the_end_where_it_cannot_come(self):
        for text in ("", "  "):
            assert_text_error(self, len(text) + 1, "expected a word", read_book, [text])
        for text in ("a", "ab c", " ab c  ", "abc", "aa", "b"):
            assert_text_error(self, len(text) + 1, 'expected a word or ":"', read_book, [text])
        self.assertEqual((read_collation(""), read_collation("   ")), ((), ()))

    def test_tokens_with_a_problem_come_first(self):
        for kind, rows in EXPECTED.items():
            for ahead, ends, _ in rows:
                text = ahead + " " + ends[0] + " "
                for end, words in [("g", NO_TOKEN), ("1 ? a", NO_TOKEN), ("1234567", MANY_DIGITS), ("0000001 g", MANY_DIGITS)]:
                    column = len(text) + 1 + (2 if end[:2] == "1 " else 0)
                    assert_text_error(self, column, words, next_tokens, [text + end, kind])
                    assert_text_error(self, column, words, READ[kind], [text + end])
        assert_text_error(self, 6, NO_TOKEN, read_book, ["abc: A"])
        assert_text_error(self, 3, NO_TOKEN, read_collation, ["0 A"])

    def test_what_a_text_means_is_of_no_interest(self):
        for text in ("abcdef aa bb:", "f: abcdef abcdef abcdef", "b a a: f"):
            self.assertEqual(next_tokens(text, "book"), ["a word", "the end"])
        self.assertEqual(next_tokens("0 999999 9", "collation"), ["a number", "the end"])

    def test_all_short_texts(self):
        # Of each text the first token that cannot come, by trying the words that the grammar allows.
        kinds = {"book": {"": "w", "w": "w:", ":": "W$", "W": "W$"}, "collation": {"": "n$", "n": "n$"}}
        told = {"w": "a word", "W": "a word", "n": "a number", ":": '":"', "$": "the end"}
        for kind, steps in kinds.items():
            for tokens in (row for many in range(5) for row in product(["a", "1", ":"], repeat=many)):
                text, place, wrong = " ".join(tokens), "", None
                for number, token in enumerate(tokens):
                    found = [step for step in steps[place] if {"a": "wW", "1": "n", ":": ":"}[token].find(step) >= 0]
                    if not found:
                        wrong = (2 * number + 1, "expected " + " or ".join(told[step] for step in steps[place]))
                        break
                    place = found[0]
                if wrong is None:
                    self.assertEqual(next_tokens(text, kind), [told[step] for step in steps[place]])
                else:
                    assert_text_error(self, *wrong, next_tokens, [text, kind])

    def test_a_new_list_each_time(self):
        for kind, rows in BEHIND.items():
            for tokens, words in rows:
                first = next_tokens(tokens, kind)
                self.assertIs(type(first), list)
                first.append(None)
                first[0] = None
                self.assertEqual(next_tokens(tokens, kind), words)

    def test_wrong_arguments(self):
        kinds = [
            None, True, 0, "", "Book", "books", "boo", "collations", "a word", b"book", ("book",), ["book"], [], {}, (),
            "book ", Anything(), ("book", "collation"), "paper", "leaves",
        ]
        for good in [("ab", "book"), ("2 1", "collation")]:
            assert_checks(self, next_tokens, good, [("text", wrong_texts()), ("kind", kinds)])
        # The kind comes ahead of problems of the text.
        for kind in kinds:
            for text in ("g", "1234567", ":", "1 a", "abc:"):
                assert_bad(self, "kind", next_tokens, [text, kind])
        for function in (read_book, read_collation):
            good = "ab:" if function is read_book else "1"
            assert_checks(self, function, [good], [("text", wrong_texts())])


class ReadBookTest(unittest.TestCase):
    def test_examples(self):
        self.assertEqual(read_book("ab c: abba"), ((1, 0, 2), (0, 1, 1, 0)))
        self.assertEqual(read_book("a:"), ((0,), ()))
        assert_text_error(self, 9, NO_MARK, read_book, ["ab c: abda"])

    def test_words_in_another_sequence_and_turned(self):
        for text in ("ab cd e:", "cd ab e:", "e dc ba:", "ba e cd:", " dc  e ab : "):
            self.assertEqual(read_book(text), ((1, 0, 3, 2, 4), ()))
        self.assertEqual(read_book("fa be cd:")[0], (5, 4, 3, 2, 1, 0))
        self.assertEqual(read_book("f e d c b a:")[0], (0, 1, 2, 3, 4, 5))
        self.assertEqual(read_book("c b a: cab"), ((0, 1, 2), (2, 0, 1)))

    def test_words_of_the_leaves_in_pieces(self):
        for text in ("ab c:abba", "ab c: ab ba", "ab c : a b b a", "  ab   c:  abb  a  ", "ab c:a bba"):
            self.assertEqual(read_book(text), ((1, 0, 2), (0, 1, 1, 0)))

    def test_sixteen_and_seventeen_leaves(self):
        leaves = "abca" * 4
        self.assertEqual(read_book("ab c: " + leaves), ((1, 0, 2), (0, 1, 2, 0) * 4))
        assert_text_error(self, 23, MANY_LEAVES, read_book, ["ab c: " + leaves + "a"])
        assert_text_error(self, 23, MANY_LEAVES, read_book, ["ab c: " + leaves + "a" * 200])
        assert_text_error(self, 25, MANY_LEAVES, read_book, ["ab c: " + leaves + "  bc"])
        assert_text_error(self, 39, MANY_LEAVES, read_book, ["ab c: " + " ".join(leaves) + " c"])
        # The seventeenth leaf without a mark of its own, and a leaf without one ahead of it.
        assert_text_error(self, 23, MANY_LEAVES, read_book, ["ab c: " + leaves + "d"])
        assert_text_error(self, 22, NO_MARK, read_book, ["ab c: " + leaves[:-1] + "dd"])
        assert_text_error(self, 22, NO_MARK, read_book, ["ab c: " + leaves[:-1] + "fa"])

    def test_words_with_too_many_letters(self):
        for word in ("abc", "abcdef", "aaa", "aab", "fedcba", "fff"):
            assert_text_error(self, 1, MANY_LETTERS, read_book, [word + ":"])
            assert_text_error(self, 1, MANY_LETTERS, read_book, [word + " " + word + ": f"])
            assert_text_error(self, 6, MANY_LETTERS, read_book, ["a bc " + word + " a:"])

    def test_a_mark_that_stands_already(self):
        for column, text in [
            (2, "aa:"), (2, "bb:"), (3, "a a:"), (4, "ab a:"), (4, "ab b:"), (5, "ab ca:"), (4, "ab ac:"), (4, "ab ba:"),
            (5, "ab cc:"), (12, "a b c d e  a: a"), (3, "f f:"), (2, "ff:"), (7, "ab cd da:"),
        ]:
            assert_text_error(self, column, TWICE, read_book, [text])
            assert_text_error(self, column, TWICE, read_book, [text + " f"])

    def test_marks_that_are_missing(self):
        for words in ("b", "ac", "a c", "bc", "f", "ab d", "a b c d f", "fa", "b c d e f", "e"):
            assert_text_error(self, len(words) + 1, MISSING, read_book, [words + ":"])
            assert_text_error(self, len(words) + 3, MISSING, read_book, [words + "  : f"])
        for words in ("a", "ba", "c ab", "dc ab", "e d c ba", "f ab ed c"):
            self.assertEqual(len(read_book(words + ":")[0]), len(words.replace(" ", "")))

    def test_marks_that_there_are_not(self):
        for column, text in [(3, "a:b"), (4, "a: b"), (6, "a: aab"), (9, "ab c: abdd"), (8, "a: a a fa"), (5, "ab: c")]:
            assert_text_error(self, column, NO_MARK, read_book, [text])
        for number, letter in enumerate("abcdef"):
            for many in range(1, 7):
                text = " ".join("abcdef"[:many]) + ": " + letter
                if number < many:
                    self.assertEqual(read_book(text)[1], (number,))
                else:
                    assert_text_error(self, len(text), NO_MARK, read_book, [text])

    def test_each_problem_with_a_second_one_behind_it(self):
        # At one place the one that stands first: a long word whose first letter stands already.
        assert_text_error(self, 4, MANY_LETTERS, read_book, ["ab abc:"])
        assert_text_error(self, 4, MANY_LETTERS, read_book, ["ab aaa: f"])
        assert_text_error(self, 2, TWICE, read_book, ["aa bcd:"])
        assert_text_error(self, 3, TWICE, read_book, ["b b:"])
        assert_text_error(self, 1, MANY_LETTERS, read_book, ["bcd bcd: f"])
        assert_text_error(self, 2, MISSING, read_book, ["b: f"])
        assert_text_error(self, 2, MISSING, read_book, ["b:" + "b" * 17])
        assert_text_error(self, 4, MISSING, read_book, ["a c: c"])
        assert_text_error(self, 3, NO_MARK, read_book, ["a:" + "b" * 17])
        assert_text_error(self, 19, MANY_LEAVES, read_book, ["a:" + "a" * 16 + "bb"])

    def test_the_grammar_comes_ahead(self):
        for column, text, words in [
            (5, "abc 1:", 'expected a word or ":"'), (4, "aa:1", "expected a word or the end"), (3, "aa", 'expected a word or ":"'),
            (3, "b::", "expected a word or the end"), (5, "a:b :", "expected a word or the end"),
            (20, "a:" + "a" * 17 + "1", "expected a word or the end"),
        ]:
            assert_text_error(self, column, words, read_book, [text])

    def test_kinds_of_what_is_returned(self):
        told = read_book("ab c: abba")
        self.assertEqual([type(told), type(told[0]), type(told[1])], [tuple] * 3)
        self.assertEqual({type(mark) for mark in (*told[0], *told[1])}, {int})


class ReadCollationTest(unittest.TestCase):
    def test_examples(self):
        self.assertEqual((read_collation("2 1 01"), read_collation("")), ((2, 1, 1), ()))

    def test_all_collations(self):
        for sheets in range(9):
            for collation in compositions(sheets):
                numbers = " ".join(str(many) for many in collation)
                for text in (numbers, "  " + numbers + " ", "  ".join(f"{many:06d}" for many in collation)):
                    self.assertEqual(read_collation(text), collation)
                    self.assertIs(type(read_collation(text)), tuple)

    def test_no_sheets(self):
        for zero in ("0", "00", "000000"):
            assert_text_error(self, 1, NO_SHEET, read_collation, [zero])
            assert_text_error(self, 5, NO_SHEET, read_collation, ["1 2 " + zero])
            # Also behind as many sheets as there can be.
            assert_text_error(self, 3, NO_SHEET, read_collation, ["8 " + zero])
            assert_text_error(self, 3, NO_SHEET, read_collation, ["8 " + zero + " 1"])
            assert_text_error(self, 1, NO_SHEET, read_collation, [zero + " 9"])

    def test_eight_and_nine_sheets(self):
        self.assertEqual((read_collation("8"), read_collation("000008"), read_collation("7 1")), ((8,), (8,), (7, 1)))
        for column, text in [
            (1, "9"), (1, "000009"), (1, "999999"), (1, "10"), (3, "8 1"), (3, "7 2"), (15, "1 1 1 1 1 1 1 2"), (3, "1 8"),
            (17, "1 1 1 1 1 1 1 1 1"), (8, "000008 000001"), (3, "4 100000 0"), (3, "8 1 0"), (2, " 9 0"),
        ]:
            assert_text_error(self, column, MANY_SHEETS, read_collation, [text])

    def test_the_grammar_comes_ahead(self):
        for column, text in [(3, "0 a"), (2, "9:"), (5, "1 9 b"), (3, "00a")]:
            assert_text_error(self, column, "expected a number or the end", read_collation, [text])
        for column, text in [(3, "0 1234567"), (3, "9 0000000")]:
            assert_text_error(self, column, MANY_DIGITS, read_collation, [text])


if __name__ == "__main__":
    unittest.main()

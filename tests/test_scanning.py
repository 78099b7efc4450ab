import unittest
from itertools import product

from helper import assert_bad, assert_checks, assert_text_error, wrong_texts
from quiremarks.scanning import scan

NO_TOKEN = "no token begins here"
MANY_DIGITS = "a number has at most 6 digits"
NONE = [
    "g", "z", "x", "A", "F", "Z", "_", "-", ",", ";", ".", "'", '"', "/", "(", ")", "+", "*", "\t", "\r", "\0", "\x0b", "\x0c",
    "\x1f", "\x7f", "\x85", "\xa0", "\xe9", "\u03b1", "\u0430", "\u0661", "\uff11", "\u00b2", "\u00bd", "\uff1a", "\uff41",
    "\u2028", "\u2003", "\u3000", "\U0001d41a", "\U0001f600", "\ud800", "`", "@", "{",
]


def plain_scan(text):
    """The tokens of a text without problems."""
    found, place = [], 0
    while place < len(text):
        kind = "word" if text[place] in "abcdef" else "number" if text[place] in "0123456789" else "sign"
        end = place + 1
        while kind != "sign" and end < len(text) and text[end] in {"word": "abcdef", "number": "0123456789"}[kind]:
            end += 1
        if text[place] != " ":
            found.append((kind, text[place:end], place + 1))
            place = end
        else:
            place += 1
    return [*found, ("end", "", len(text) + 1)]


class ScanningTest(unittest.TestCase):
    def test_words_numbers_signs_and_blanks(self):
        self.assertEqual(scan(""), [("end", "", 1)])
        self.assertEqual(scan("   "), [("end", "", 4)])
        self.assertEqual(scan("ab c: abba"), [
            ("word", "ab", 1), ("word", "c", 4), ("sign", ":", 5), ("word", "abba", 7), ("end", "", 11),
        ])
        self.assertEqual(scan(" 2 1  01 "), [("number", "2", 2), ("number", "1", 4), ("number", "01", 7), ("end", "", 10)])
        self.assertEqual(scan("a1b::22cd"), [
            ("word", "a", 1), ("number", "1", 2), ("word", "b", 3), ("sign", ":", 4), ("sign", ":", 5), ("number", "22", 6),
            ("word", "cd", 8), ("end", "", 10),
        ])
        self.assertEqual(scan("abcdeffedcba"), [("word", "abcdeffedcba", 1), ("end", "", 13)])

    def test_all_short_texts(self):
        for many in range(6):
            for characters in product("a f0:", repeat=many):
                text = "".join(characters)
                self.assertEqual(scan(text), plain_scan(text))
                self.assertEqual("".join(token[1] for token in scan(text)), text.replace(" ", ""))

    def test_numbers_of_six_and_of_seven_digits(self):
        for digits in ("999999", "000000", "000001", "123456"):
            self.assertEqual(scan(digits), [("number", digits, 1), ("end", "", 7)])
            self.assertEqual(scan("a" + digits + ":"), [
                ("word", "a", 1), ("number", digits, 2), ("sign", ":", 8), ("end", "", 9),
            ])
            self.assertEqual(len(scan(digits + " " + digits)), 3)
            for more in ("0" + digits, digits + "0", digits * 50):
                assert_text_error(self, 1, MANY_DIGITS, scan, [more])
            assert_text_error(self, 9, MANY_DIGITS, scan, ["ab 1 :: " + digits + "1"])
            assert_text_error(self, 8, MANY_DIGITS, scan, [digits + " " + digits + "1 "])

    def test_characters_that_begin_no_token(self):
        for character in NONE:
            assert_text_error(self, 1, NO_TOKEN, scan, [character])
            assert_text_error(self, 3, NO_TOKEN, scan, ["ab" + character])
            assert_text_error(self, 4, NO_TOKEN, scan, ["12 " + character + "1"])
            assert_text_error(self, 2, NO_TOKEN, scan, [":" + character + ":"])
            assert_text_error(self, 300, NO_TOKEN, scan, ["a" * 299 + character])
        for number in range(128):
            character = chr(number)
            if character not in "abcdef0123456789: \n":
                assert_text_error(self, 6, NO_TOKEN, scan, ["a 1: " + character])

    def test_each_problem_behind_another_one(self):
        problems = [("g", NO_TOKEN), ("A", NO_TOKEN), ("1234567", MANY_DIGITS), ("0000000", MANY_DIGITS), ("?", NO_TOKEN)]
        for first, words in problems:
            for second, _ in problems:
                for ahead in ("", " ", "ab ", "1 :", "::", "123456 "):
                    assert_text_error(self, len(ahead) + 1, words, scan, [ahead + first + " " + second])
        # A character that begins no token ends a number: with too many digits ahead of it the number comes first.
        assert_text_error(self, 1, MANY_DIGITS, scan, ["1234567g"])
        assert_text_error(self, 7, NO_TOKEN, scan, ["123456g1234567"])

    def test_texts_of_300_and_of_301_characters(self):
        for text in ("a" * 300, " " * 300, ":" * 300, "a1" * 150, "123456 " * 42 + "abcdef"):
            self.assertEqual(len(text), 300)
            self.assertEqual(scan(text), plain_scan(text))
            self.assertEqual(scan(text)[-1], ("end", "", 301))
            assert_bad(self, "text", scan, [text + " "])
        for text in ("g" * 301, "1" * 301):
            assert_bad(self, "text", scan, [text])
            assert_text_error(self, 1, NO_TOKEN if text[0] == "g" else MANY_DIGITS, scan, [text[:-1]])

    def test_newlines_and_values_that_are_no_texts(self):
        assert_checks(self, scan, ["ab c: abba"], [("text", wrong_texts())])
        for place in range(11):
            text = "ab c: abba"
            assert_bad(self, "text", scan, [text[:place] + "\n" + text[place:]])
            assert_bad(self, "text", scan, ["g" + text[:place] + "\n" + text[place:]])
        # Only the line feed is a newline.
        for character in ("\r", "\x0b", "\x0c", "\x85", "\u2028", "\u2029"):
            assert_text_error(self, 2, NO_TOKEN, scan, ["a" + character])

    def test_a_new_list_each_time(self):
        for text in ("", "ab c: abba", "1 2"):
            first = scan(text)
            self.assertIs(type(first), list)
            self.assertEqual({type(token) for token in first}, {tuple})
            kept = list(first)
            first.append(None)
            first[0] = None
            self.assertEqual(scan(text), kept)


if __name__ == "__main__":
    unittest.main()

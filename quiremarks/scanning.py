"""Scanning: the tokens of a text."""

from quiremarks.errors import BadValue, TextError

MOST_CHARACTERS = 300
MOST_DIGITS = 6
LETTERS = "abcdef"
DIGITS = "0123456789"
SIGN = ":"
BLANK = " "


def check_text(text):
    """Raise BadValue unless the argument is a text."""
    if type(text) is not str or len(text) > MOST_CHARACTERS or "\n" in text:
        raise BadValue("text")


def longest_run(text, begin, characters):
    """Return the longest part of the text that begins there and has these characters alone."""
    end = begin
    while end < len(text) and text[end] in characters:
        end = end + 1
    return text[begin:end]


def token_at(text, begin):
    """Return the token that begins with the character there."""
    column = begin + 1
    if text[begin] in LETTERS:
        return ("word", longest_run(text, begin, LETTERS), column)
    if text[begin] in DIGITS:
        digits = longest_run(text, begin, DIGITS)
        if len(digits) > MOST_DIGITS:
            raise TextError(column, "a number has at most 6 digits")
        return ("number", digits, column)
    if text[begin] == SIGN:
        return ("sign", SIGN, column)
    raise TextError(column, "no token begins here")


def tokens_of(text):
    """Return the list of the tokens of the text, which is not checked."""
    found = []
    at = 0
    while at < len(text):
        if text[at] == BLANK:
            at = at + 1
        else:
            token = token_at(text, at)
            found.append(token)
            at = at + len(token[1])
    found.append(("end", "", len(text) + 1))
    return found


def scan(text):
    """Return the list of the tokens of the text, each its kind, its characters and its column."""
    check_text(text)
    return tokens_of(text)

"""Reading: the books and the collations that texts tell.

A place of a grammar has a name. The place at which the texts of a kind begin
has the name of the kind.
"""

from quiremarks.errors import BadValue, TextError
from quiremarks.papers import MOST_LEAVES
from quiremarks.scanning import LETTERS, check_text, scan, tokens_of

KINDS = ("book", "collation")
MOST_SHEETS = 8
# What can come at each place, in the order in which it is told, with the name of the place behind it.
PLACES = {
    "book": (("word", "paper"),),
    "paper": (("word", "paper"), ("sign", "leaves")),
    "leaves": (("word", "leaves"), ("end", "")),
    "collation": (("number", "collation"), ("end", "")),
}
TOLD = {"word": "a word", "number": "a number", "sign": '":"', "end": "the end"}


def told_at(place):
    """Return the list of what can come at the place, told by words."""
    return [TOLD[kind] for kind, _ in PLACES[place]]


def either(words):
    """Return the words as one string."""
    if len(words) == 1:
        return words[0]
    return ", ".join(words[:-1]) + " or " + words[-1]


def place_behind(begin, tokens):
    """Return the place behind the tokens, of which the first one comes at the place where they begin."""
    place = begin
    for kind, _, column in tokens:
        steps = dict(PLACES[place])
        if kind not in steps:
            raise TextError(column, "expected " + either(told_at(place)))
        place = steps[kind]
    return place


def tokens_of_kind(text, kind):
    """Return the list of the tokens of a text of this kind."""
    tokens = scan(text)
    place_behind(kind, tokens)
    return tokens


def letters_of(words):
    """Return the list of the marks of all letters of the words, each with its column."""
    return [
        (LETTERS.index(letter), column + place)
        for _, letters, column in words
        for place, letter in enumerate(letters)
    ]


def add_word(entries, word):
    """Put the marks of the word, with their counterparts, into the dict of the entries of a paper."""
    if len(word[1]) > 2:
        raise TextError(word[2], "a word has 1 or 2 letters here")
    marks = letters_of([word])
    for place, (mark, column) in enumerate(marks):
        if mark in entries:
            raise TextError(column, "this mark stands already")
        entries[mark] = marks[-1 - place][0]


def paper_of(words, column):
    """Return the paper of the words, behind which the sign stands at the column."""
    entries = {}
    for word in words:
        add_word(entries, word)
    marks = list(range(len(entries)))
    if sorted(entries) != marks:
        raise TextError(column, "a mark is missing")
    return tuple([entries[mark] for mark in marks])


def sequence_of(paper, words):
    """Return the sequence of the paper that the words tell."""
    found = []
    for mark, column in letters_of(words):
        if len(found) == MOST_LEAVES:
            raise TextError(column, "there are at most 16 leaves")
        if mark >= len(paper):
            raise TextError(column, "there is no such mark")
        found.append(mark)
    return tuple(found)


def next_tokens(text, kind):
    """Return the list of what can come behind the tokens of the text, the beginning of a text of this kind."""
    check_text(text)
    if type(kind) is not str or kind not in KINDS:
        raise BadValue("kind")
    # Further tokens could come ahead of the end.
    return told_at(place_behind(kind, tokens_of(text)[:-1]))


def read_book(text):
    """Return the paper and the sequence that the text tells."""
    tokens = tokens_of_kind(text, "book")
    at = [token[0] for token in tokens].index("sign")
    paper = paper_of(tokens[:at], tokens[at][2])
    return paper, sequence_of(paper, tokens[at + 1:-1])


def read_collation(text):
    """Return the collation that the text tells."""
    found = []
    for _, digits, column in tokens_of_kind(text, "collation")[:-1]:
        many = int(digits)
        if many == 0:
            raise TextError(column, "a gathering has a sheet")
        if sum(found) + many > MOST_SHEETS:
            raise TextError(column, "there are at most 8 sheets")
        found.append(many)
    return tuple(found)

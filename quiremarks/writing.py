"""Writing: the texts of books and of collations."""

from quiremarks.checks import are_between
from quiremarks.errors import BadValue
from quiremarks.papers import check_book
from quiremarks.reading import MOST_SHEETS
from quiremarks.scanning import LETTERS


def letters_for(marks):
    """Return the letters of the marks, as one word."""
    return "".join([LETTERS[mark] for mark in marks])


def book_text(paper, sequence):
    """Return the text of the book."""
    check_book(paper, sequence)
    words = []
    for mark, other in enumerate(paper):
        if mark == other:
            words.append(letters_for([mark]))
        elif mark < other:
            words.append(letters_for([mark, other]))
    text = " ".join(words) + ":"
    if len(sequence) == 0:
        return text
    return text + " " + letters_for(sequence)


def collation_text(collation):
    """Return the text of the collation."""
    if not are_between(collation, 1, MOST_SHEETS) or sum(collation) > MOST_SHEETS:
        raise BadValue("collation")
    return " ".join([str(many) for many in collation])

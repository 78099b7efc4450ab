"""Commands: their forms, and what they make of the books of a collection.

Books are a tuple of sequences. Each function that carries out a command, whose
form is known to be right, returns the pair of its value and the books behind it.
"""

from quiremarks.checks import is_between, is_told
from quiremarks.errors import NotPossible
from quiremarks.factors import split_leaves
from quiremarks.folds import exchanged
from quiremarks.papers import MOST_LEAVES, is_sequence

MOST_BOOKS = 6
MOST_COMMANDS = 20


def is_book_number(value):
    """Tell whether the value can be the number of a book."""
    return is_between(value, 0, MOST_BOOKS - 1)


def is_leaf_number(value):
    """Tell whether the value can be a leaf of a book."""
    return is_between(value, 0, MOST_LEAVES - 1)


def is_mark(paper, value):
    """Tell whether the value is a mark of the paper."""
    return is_between(value, 0, len(paper) - 1)


def is_command(paper, value):
    """Tell whether the value is a command for a collection with this paper."""
    if is_told(value, "book", 2):
        return is_sequence(paper, value[1])
    if is_told(value, "leaf", 3):
        return is_book_number(value[1]) and is_mark(paper, value[2])
    if is_told(value, "set", 4):
        return is_book_number(value[1]) and is_leaf_number(value[2]) and is_mark(paper, value[3])
    if is_told(value, "remove", 3):
        return is_book_number(value[1]) and is_leaf_number(value[2])
    return False


def book_at(books, book):
    """Return the sequence of the book with the number."""
    if book >= len(books):
        raise NotPossible("missing")
    return books[book]


def book_with(books, book, leaf):
    """Return the sequence of the book with the number, which must have the leaf."""
    sequence = book_at(books, book)
    if leaf >= len(sequence):
        raise NotPossible("missing")
    return sequence


def put_book(books, sequence):
    """Put a book with the sequence behind the others."""
    if len(books) == MOST_BOOKS:
        raise NotPossible("books")
    return len(books), books + (sequence,)


def put_leaf(paper, books, book, mark):
    """Put a leaf with the mark behind the others of the book."""
    sequence = book_at(books, book)
    if len(sequence) == MOST_LEAVES:
        raise NotPossible("full")
    longer = sequence + (mark,)
    factors, rest = split_leaves(paper, longer)
    complete = None
    if len(rest) == 0:
        complete = factors[-1]
    return complete, exchanged(books, book, longer)


def set_mark(books, book, leaf, mark):
    """Give the leaf of the book the mark."""
    sequence = book_with(books, book, leaf)
    return sequence[leaf], exchanged(books, book, exchanged(sequence, leaf, mark))


def remove_leaf(books, book, leaf):
    """Take the leaf out of the book."""
    sequence = book_with(books, book, leaf)
    return sequence[leaf], exchanged(books, book, sequence[:leaf] + sequence[leaf + 1:])


def carried_out(paper, books, command):
    """Return the value of the command, and the books behind it."""
    if command[0] == "book":
        return put_book(books, command[1])
    if command[0] == "leaf":
        return put_leaf(paper, books, command[1], command[2])
    if command[0] == "set":
        return set_mark(books, command[1], command[2], command[3])
    return remove_leaf(books, command[1], command[2])

"""Collections: books of one paper that commands change, and a journal of these commands."""

from quiremarks.certainty import conjugate_leaves
from quiremarks.checks import check_between
from quiremarks.commands import MOST_BOOKS, MOST_COMMANDS, book_at, book_with, carried_out, is_command
from quiremarks.errors import BadValue, TooLarge
from quiremarks.factors import split_leaves
from quiremarks.papers import MOST_LEAVES, check_paper


class Collection:
    """Books of one paper.

    The states are the books as they were ahead of each command of the journal,
    and in the end as they are now. The lines are the records of the journal.
    """

    def __init__(self, paper):
        check_paper(paper)
        self._paper = paper
        self._states = [()]
        self._lines = []

    def act(self, command):
        """Carry out the command, and return its value."""
        if not is_command(self._paper, command):
            raise BadValue("command")
        value, books = carried_out(self._paper, self._states[-1], command)
        if len(self._lines) == MOST_COMMANDS:
            raise TooLarge("commands")
        self._states.append(books)
        self._lines.append((command, value))
        return value

    def undo(self):
        """Undo the last command, and return it, or None if the journal is empty."""
        if len(self._lines) == 0:
            return None
        self._states.pop()
        command, _ = self._lines.pop()
        return command

    def books(self):
        """Return the tuple of the books."""
        return self._states[-1]

    def journal(self):
        """Return the tuple of the commands in the journal."""
        return tuple([command for command, _ in self._lines])

    def factors(self, book):
        """Return the pair of the tuple of the factors so far of the book and its remainder."""
        check_between("book", book, 0, MOST_BOOKS - 1)
        return split_leaves(self._paper, book_at(self._states[-1], book))

    def partners(self, book, leaf):
        """Return the ascending tuple of the leaves of the book that can be conjugate to the leaf."""
        check_between("book", book, 0, MOST_BOOKS - 1)
        check_between("leaf", leaf, 0, MOST_LEAVES - 1)
        sequence = book_with(self._states[-1], book, leaf)
        _, rest = split_leaves(self._paper, sequence)
        return conjugate_leaves(self._paper, sequence[:len(sequence) - len(rest)], leaf)

    def records(self):
        """Return the tuple of the pairs of each command in the journal and its value."""
        return tuple(self._lines)

    def twin(self):
        """Return another collection with the same paper and the same journal."""
        other = Collection(self._paper)
        other._states = list(self._states)
        other._lines = list(self._lines)
        return other

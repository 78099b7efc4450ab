"""Journals: collections made anew from them, and the judge of their records."""

from quiremarks.checks import are_between, is_between
from quiremarks.collection import Collection
from quiremarks.commands import MOST_COMMANDS, is_command
from quiremarks.errors import BadValue, NotPossible
from quiremarks.papers import check_paper


def is_journal(paper, value):
    """Tell whether the value is a tuple of commands for the paper, not too many."""
    if type(value) is not tuple or len(value) > MOST_COMMANDS:
        return False
    return all([is_command(paper, command) for command in value])


def is_same(value, told):
    """Tell whether the value, of any kind, is what was told: None, an integer or a tuple of integers, none below 0."""
    if told is None:
        return value is None
    if type(told) is int:
        return is_between(value, told, told)
    return are_between(value, 0, max(told)) and value == told


def holds(collection, paper, value):
    """Carry out the command of a record, and tell whether the value is a record that holds."""
    if type(value) is not tuple or len(value) != 2:
        return False
    command, written = value
    if not is_command(paper, command):
        return False
    try:
        told = collection.act(command)
    except NotPossible:
        return False
    return is_same(written, told)


def replayed(paper, journal):
    """Return the collection that is replayed from the journal."""
    check_paper(paper)
    if not is_journal(paper, journal):
        raise BadValue("journal")
    collection = Collection(paper)
    for command in journal:
        collection.act(command)
    return collection


def are_right(paper, records):
    """Tell whether the records are right."""
    check_paper(paper)
    if type(records) is not tuple or len(records) > MOST_COMMANDS:
        return False
    collection = Collection(paper)
    for value in records:
        if not holds(collection, paper, value):
            return False
    return True

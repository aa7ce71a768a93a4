"""All that a book shows, to be held against what it shows later; and what tests of books share."""

from nightglass import errors
from nightglass.papers import book_rows

from ledger import Refusal


def taken_back(book):
    """The deeds of a book taken back one after the other, with the rows behind each of them."""
    told = []
    while book.log():
        told.append((book.undo(), book_rows(book)))
    return told


def done_again(book):
    """The taken-back deeds of a book done again one after the other, with the rows behind each of them."""
    told = []
    while True:
        try:
            told.append((book.redo(), book_rows(book)))
        except errors.NoDeed:
            return told


def shown(book):
    """What a book holds, its log, and what can be undone and redone."""
    names = book.names()
    return (
        names,
        [(book.window(name), book.stars_of(name)) for name in names],
        book.ties(),
        book.skies(),
        book_rows(book),
        book.log(),
        taken_back(book.twin()),
        done_again(book.twin()),
    )


def outcome(call, *things):
    """What a call of the program tells: ("told", value), or the refusal's class name and its fields."""
    try:
        return ("told", call(*things))
    except errors.GlassError as refusal:
        return (refusal.__class__.__name__, dict(vars(refusal)))


def expected_outcome(call, *things):
    """The same of a call of the ledger."""
    try:
        return ("told", call(*things))
    except Refusal as refusal:
        return (refusal.name, refusal.fields)


def do(book, deed):
    """Does a deed in a book by its own method."""
    word, *rest = deed
    return getattr(book, word)(*rest)

"""The desk: a book that is spoken to by texts, and answers by lists of texts."""

from nightglass.book import Book, do_deed
from nightglass.deeds import deed_text, numbers_text, read_deed, read_words
from nightglass.errors import BadCount, BadMotion, BadName, BadPlate, BadText, Crossed, Full
from nightglass.errors import NoDeed, NoPlate, NoTie, SameSky, SelfTie, Taken, Unlike
from nightglass.papers import book_rows


def answer_deed(book, text):
    """Does the deed that a text writes."""
    deed = read_deed(text)
    number = do_deed(book, deed)
    return ["done"] if number is None else [f"tie {number}"]


def answer_undo(book, words):
    """The deed that is taken back."""
    read_words(words, ())
    return [deed_text(book.undo())]


def answer_redo(book, words):
    """The deed that is done again."""
    read_words(words, ())
    return [deed_text(book.redo())]


def answer_lies(book, words):
    """How one plate lies to another."""
    one, other = read_words(words, ("name", "name"))
    motion = book.lies(one, other)
    return ["apart"] if motion is None else [numbers_text(motion)]


def answer_chain(book, words):
    """The told chain between two plates."""
    one, other = read_words(words, ("name", "name"))
    numbers = book.chain(one, other)
    if numbers is None:
        return ["apart"]
    # The chain between two plates is empty just where they are one.
    return [numbers_text(numbers)] if numbers else ["same"]


def answer_ask(book, words):
    """What is said of a place."""
    name, x, y = read_words(words, ("name", "number", "number"))
    word, number = book.ask(name, (x, y))
    return ["unseen"] if word == "unseen" else [f"{word} {number}"]


def answer_skies(book, words):
    """The names of each sky."""
    read_words(words, ())
    return [" ".join(names) for names in book.skies()]


def answer_face(book, words):
    """The stars of a plate's sky."""
    name = read_words(words, ("name",))[0]
    return [numbers_text(star) for star in book.face(name)]


def answer_layings(book, words):
    """The layings of two skies."""
    one, other, least = read_words(words, ("name", "name", "number"))
    return [numbers_text(motion) for motion in book.layings(one, other, least)]


def answer_rows(book, words):
    """The book's rows."""
    read_words(words, ())
    return book_rows(book)


ANSWERS = {
    "undo": answer_undo,
    "redo": answer_redo,
    "lies": answer_lies,
    "chain": answer_chain,
    "ask": answer_ask,
    "skies": answer_skies,
    "face": answer_face,
    "layings": answer_layings,
    "rows": answer_rows,
}


def answer(book, text):
    """What a book answers to a text; refused as the book refuses, or with BadText."""
    word, *rest = text.split(" ")
    if word not in ANSWERS:
        return answer_deed(book, text)
    asked = ANSWERS[word]
    return asked(book, rest)


def answer_or_refusal(book, text):
    """What a book answers to a text, a refusal by its words."""
    try:
        return answer(book, text)
    except BadName:
        return ["no name"]
    except BadPlate:
        return ["no glass"]
    except BadMotion:
        return ["no motion"]
    except BadCount:
        return ["no count"]
    except BadText:
        return ["no text"]
    except NoPlate:
        return ["no plate"]
    except NoTie:
        return ["no tie"]
    except NoDeed:
        return ["no deed"]
    except Taken:
        return ["taken"]
    except Full:
        return ["full"]
    except SelfTie:
        return ["self"]
    except SameSky:
        return ["one sky"]
    except Crossed as crossed:
        return [f"crossed {numbers_text(crossed.by)}"]
    except Unlike as unlike:
        return [f"unlike {unlike.here} {unlike.there} {numbers_text(unlike.place)}"]


class Desk:
    """A desk; its book is without plates at first."""

    def __init__(self):
        self.kept = Book()

    def say(self, text):
        """What the desk answers to a text."""
        return answer_or_refusal(self.kept, text)

    def book(self):
        """A twin of the desk's book."""
        return self.kept.twin()

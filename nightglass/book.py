"""The book: plates, the ties between them, and the deeds that brought them there."""

from nightglass.errors import NoDeed, SameSky
from nightglass.layings import layings, sure
from nightglass.pages import blank_page, laid_on, need_ends, need_plates, tie_of, verdict
from nightglass.pages import with_plate, with_tie, without_plate, without_tie
from nightglass.plates import Plate
from nightglass.skies import chart, face, form, matches, said
from nightglass.webs import chains, frames


class Book:
    """A book, without plates at first."""

    def __init__(self):
        self.page = blank_page()
        # For each deed that counts the page ahead of it, the first deed first; for each deed
        # that was taken back the page behind it, the last one taken back at the end.
        self.past = []
        self.future = []

    def write(self, deed, page):
        """Goes on to the page that a deed made."""
        self.past.append((deed, self.page))
        self.page = page
        self.future = []

    def put(self, name, width, height, limit, stars):
        """Puts a plate in; BadName, BadPlate, Taken, Full."""
        plate = Plate(name, width, height, limit, stars)
        page = with_plate(self.page, plate)
        self.write(("put", name, width, height, limit, tuple(plate.stars())), page)

    def drop(self, name):
        """Takes a plate out, and each tie at it; NoPlate."""
        self.write(("drop", name), without_plate(self.page, name))

    def tie(self, one, other, motion):
        """Ties two plates and tells the tie's number.

        NoPlate, SelfTie, BadMotion, Full, Crossed, Unlike.
        """
        number = self.page.coming
        self.write(("tie", one, other, motion), with_tie(self.page, number, one, other, motion))
        return number

    def untie(self, number):
        """Takes a tie out; NoTie."""
        self.write(("untie", number), without_tie(self.page, number))

    def undo(self):
        """Takes back the last deed that counts and tells it; NoDeed."""
        if not self.past:
            raise NoDeed("no deed counts")
        deed, page = self.past.pop()
        self.future.append((deed, self.page))
        self.page = page
        return deed

    def redo(self):
        """Does again the last deed that was taken back and tells it; NoDeed."""
        if not self.future:
            raise NoDeed("no deed was taken back")
        deed, page = self.future.pop()
        self.past.append((deed, self.page))
        self.page = page
        return deed

    def names(self):
        """The plates' names, in order."""
        return sorted(self.page.plates)

    def window(self, name):
        """A plate's width, height and limit."""
        need_plates(self.page, [name])
        plate = self.page.plates[name]
        return (plate.width, plate.height, plate.limit)

    def stars_of(self, name):
        """A plate's stars, in order."""
        need_plates(self.page, [name])
        return self.page.plates[name].stars()

    def ties(self):
        """The ties, in order."""
        return list(self.page.standing)

    def lies(self, one, other):
        """How the plate other lies to the plate one, or None where no chain tells it."""
        need_plates(self.page, [one, other])
        return frames(self.page.standing, one).get(other)

    def chain(self, one, other):
        """The told chain from one to other, or None."""
        need_plates(self.page, [one, other])
        return chains(self.page.standing, one).get(other)

    def sky(self, name):
        """The names of a plate's sky, in order."""
        need_plates(self.page, [name])
        return sorted(frames(self.page.standing, name))

    def skies(self):
        """The names of each sky, in order."""
        found = []
        for name in self.names():
            if not any([name in names for names in found]):
                found.append(self.sky(name))
        return found

    def laid(self, name):
        """A plate's sky, laid on its frame; NoPlate."""
        need_plates(self.page, [name])
        return laid_on(self.page, name)

    def ask(self, name, place):
        """What a plate's sky says of a place of its frame."""
        return said(self.laid(name), place)

    def chart(self, name):
        """The chart of a plate's sky, laid on its frame."""
        return chart(self.laid(name))

    def face(self, name):
        """The stars of a plate's sky, laid on its frame."""
        return face(self.laid(name))

    def form(self, name):
        """The form of the chart of a plate's sky."""
        return form(self.chart(name))

    def matches(self, one, other):
        """The motions by which the charts of two plates match, in order."""
        return matches(self.chart(one), self.chart(other))

    def need_apart(self, one, other):
        """SameSky where two plates hang together; NoPlate ahead of it."""
        if self.lies(one, other) is not None:
            raise SameSky(f"{one} and {other} hang together")

    def layings(self, one, other, least):
        """The layings of two skies on the frames of one and other; SameSky, then BadCount."""
        self.need_apart(one, other)
        return layings(self.laid(one), self.laid(other), least)

    def sure(self, one, other, least, place):
        """What is sure of a place of one's frame over these layings; NoLaying at last."""
        self.need_apart(one, other)
        return sure(self.laid(one), self.laid(other), least, place)

    def carries(self, number):
        """Whether without a tie its two plates no longer hang together; NoTie."""
        number, one, other, motion = tie_of(self.page, number)
        return other not in frames(without_tie(self.page, number).standing, one)

    def would(self, one, other, motion):
        """("let",), ("crossed", chain) or ("unlike", here, there, place) for a would-be tie."""
        need_ends(self.page, one, other, motion)
        return verdict(self.page, one, other, motion)

    def mends(self, one, other, motion):
        """The numbers of the ties of which each, alone taken back, lets a would-be tie be."""
        if self.would(one, other, motion) == ("let",):
            return []
        return [
            tie[0] for tie in self.page.standing
            if verdict(without_tie(self.page, tie[0]), one, other, motion) == ("let",)
        ]

    def log(self):
        """The deeds that count, the first one first."""
        return [deed for deed, page in self.past]

    def twin(self):
        """A book of its own that is as this one is, with what can be undone and redone."""
        other = book_at(self.page)
        other.past = list(self.past)
        other.future = list(self.future)
        return other


def book_at(page):
    """A book that holds what a page does, with nothing to undo or redo."""
    book = Book()
    book.page = page
    return book


def do_deed(book, deed):
    """Does a told deed in a book, and tells what the book tells of it."""
    word, *rest = deed
    if word == "put":
        name, width, height, limit, stars = rest
        return book.put(name, width, height, limit, stars)
    if word == "drop":
        return book.drop(rest[0])
    if word == "tie":
        one, other, motion = rest
        return book.tie(one, other, motion)
    return book.untie(rest[0])


def replayed(deeds):
    """A new book, all the deeds done in order; refused as the first one that is refused."""
    book = Book()
    for deed in deeds:
        do_deed(book, deed)
    return book

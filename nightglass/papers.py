"""Papers: a book as rows of text, and read again."""

from nightglass.book import book_at
from nightglass.deeds import numbers_text, plate_text, read_plate, read_words
from nightglass.errors import BadText, GlassError
from nightglass.pages import Page, blank_page, with_plate, with_tie
from nightglass.plates import Plate


def plate_row(plate):
    """The row of a plate."""
    return f"plate {plate_text(plate.name, plate.width, plate.height, plate.limit, plate.stars())}"


def tie_row(tie):
    """The row of a tie."""
    number, one, other, motion = tie
    return f"tie {number} {one} {other} {numbers_text(motion)}"


def book_rows(book):
    """The rows of a book: its plates, its ties, and the number that the next tie gets."""
    page = book.page
    plate_rows = [plate_row(page.plates[name]) for name in sorted(page.plates)]
    tie_rows = [tie_row(tie) for tie in page.standing]
    return plate_rows + tie_rows + [f"next {page.coming}"]


def with_plate_row(page, words):
    """The page with the plate that a row's words write."""
    name, width, height, limit, stars = read_plate(words)
    if page.standing or any([name <= other for other in page.plates]):
        raise BadText(0)
    if list(stars) != sorted(stars):
        raise BadText(0)
    return with_plate(page, Plate(name, width, height, limit, list(stars)))


def with_tie_row(page, words):
    """The page with the tie that a row's words write."""
    number, one, other, turn, right, up = read_words(
        words, ("number", "name", "name", "number", "number", "number")
    )
    # The coming number is 1 ahead of all ties, and behind one the least above its number.
    if number < page.coming:
        raise BadText(0)
    return with_tie(page, number, one, other, (turn, right, up))


def with_next_row(page, words):
    """The page with the next number that a row's words write."""
    number = read_words(words, ("number",))[0]
    if number < page.coming:
        raise BadText(0)
    return Page(page.plates, page.standing, number)


def with_row(page, row):
    """The page with what a row writes; refused in one way or another where it can't be."""
    word, *rest = row.split(" ")
    if word == "plate":
        return with_plate_row(page, rest)
    if word == "tie":
        return with_tie_row(page, rest)
    if word == "next":
        return with_next_row(page, rest)
    raise BadText(0)


def read_row(page, row, at):
    """The page with what a row writes; BadText with the row's place where it can't be."""
    try:
        return with_row(page, row)
    except GlassError:
        raise BadText(at) from None


def read_book(rows):
    """The book that some rows write; BadText for the first row at fault."""
    page = blank_page()
    ended = False
    for at, row in enumerate(rows):
        if ended:
            raise BadText(at)
        page = read_row(page, row, at)
        ended = row.startswith("next ")
    if not ended:
        raise BadText(len(rows))
    return book_at(page)

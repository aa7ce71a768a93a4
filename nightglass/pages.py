"""Pages: what a book holds at one time.

A page is never changed: each deed makes a new one. So a book can go back to a page that it
had, and two books can share one.
"""

from nightglass.errors import BadMotion, Crossed, Full, NoPlate, NoTie, SelfTie, Taken, Unlike
from nightglass.motions import TURNS, behind
from nightglass.skies import unlike
from nightglass.webs import chains, frames

MOST_PLATES = 12

MOST_TIES = 40


class Page:
    """The plates by their names, the ties in order, and the number that the next tie gets."""

    def __init__(self, plates, standing, coming):
        self.plates = plates
        self.standing = standing
        self.coming = coming


def blank_page():
    """The page of a book in which nothing was done."""
    return Page({}, [], 1)


def need_plates(page, names):
    """NoPlate for the first of the names that no plate has."""
    for name in names:
        if name not in page.plates:
            raise NoPlate(f"no plate {name} stands")


def with_plate(page, plate):
    """The page with one more plate; Taken, then Full."""
    if plate.name in page.plates:
        raise Taken(f"a plate {plate.name} stands already")
    if len(page.plates) >= MOST_PLATES:
        raise Full("a book holds at most twelve plates")
    plates = dict(page.plates)
    plates[plate.name] = plate
    return Page(plates, page.standing, page.coming)


def without_plate(page, name):
    """The page without a plate and each tie at it; NoPlate."""
    need_plates(page, [name])
    plates = {other: plate for other, plate in page.plates.items() if other != name}
    standing = [tie for tie in page.standing if name not in (tie[1], tie[2])]
    return Page(plates, standing, page.coming)


def laid_on(page, name):
    """The sky of a plate, as a list of tuples (plate, motion) laid on its frame."""
    return [(page.plates[other], motion) for other, motion in frames(page.standing, name).items()]


def need_ends(page, one, other, motion):
    """NoPlate, SelfTie or BadMotion where such a tie can't be in any book with these plates."""
    need_plates(page, [one, other])
    if one == other:
        raise SelfTie(f"{one} would be tied to itself")
    if not 0 <= motion[0] < len(TURNS):
        raise BadMotion("a turn is one of 0 to 7")


def verdict(page, one, other, motion):
    """("let",), ("crossed", chain) or ("unlike", here, there, place), for a tie of such ends."""
    lies = frames(page.standing, one)
    if other not in lies:
        led = [(plate, behind(own, motion)) for plate, own in laid_on(page, other)]
        found = unlike(laid_on(page, one), led)
        return ("let",) if found is None else ("unlike",) + found
    if lies[other] != motion:
        return ("crossed", chains(page.standing, one)[other])
    return ("let",)


def with_tie(page, number, one, other, motion):
    """The page with one more tie, its number above all others; refused as a tie in a book is."""
    need_ends(page, one, other, motion)
    if len(page.standing) >= MOST_TIES:
        raise Full("a book holds at most forty ties")
    word, *why = verdict(page, one, other, motion)
    if word == "crossed":
        raise Crossed(why[0])
    if word == "unlike":
        raise Unlike(why[0], why[1], why[2])
    return Page(page.plates, page.standing + [(number, one, other, motion)], number + 1)


def tie_of(page, number):
    """The standing tie of a number; NoTie."""
    for tie in page.standing:
        if tie[0] == number:
            return tie
    raise NoTie(f"no tie {number} stands")


def without_tie(page, number):
    """The page without a tie; NoTie."""
    gone = tie_of(page, number)
    return Page(page.plates, [tie for tie in page.standing if tie != gone], page.coming)

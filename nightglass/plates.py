"""Plates: windows of glass, each with stars in numbers of its own."""

from nightglass.errors import BadName, BadPlate
from nightglass.sayings import BRIGHTEST, UNSEEN

LETTERS = "abcdefghijklmnopqrstuvwxyz"

LONGEST_NAME = 8

LONGEST_SIDE = 8

MOST_STARS = 8


def is_name(text):
    """Whether a text is a plate's name."""
    return 1 <= len(text) <= LONGEST_NAME and all([sign in LETTERS for sign in text])


def is_window(width, height, limit):
    """Whether a plate may have these sides and this limit."""
    sides_fit = 1 <= width <= LONGEST_SIDE and 1 <= height <= LONGEST_SIDE
    return sides_fit and 1 <= limit <= BRIGHTEST


class Plate:
    """A plate; refused with BadName, else with BadPlate, where it is none."""

    def __init__(self, name, width, height, limit, stars):
        if not is_name(name):
            raise BadName("a plate's name has one to eight small letters")
        if not is_window(width, height, limit):
            raise BadPlate("a plate has sides of 1 to 8 and a limit of 1 to 9")
        if len(stars) > MOST_STARS:
            raise BadPlate("a plate has at most eight stars")
        self.name = name
        self.width = width
        self.height = height
        self.limit = limit
        self.bright_at = {(x, y): bright for x, y, bright in stars}
        if len(self.bright_at) < len(stars):
            raise BadPlate("a plate has no two stars at one place")
        if not self.shows_its_stars():
            raise BadPlate("a star lies in the window, and is as bright as the limit to 9")

    def shows_its_stars(self):
        """Whether each star is one that a plate of this window and limit can show."""
        return all([
            self.holds(place) and self.limit <= bright <= BRIGHTEST
            for place, bright in self.bright_at.items()
        ])

    def stars(self):
        """The stars (x, y, bright), in order."""
        return sorted([(x, y, bright) for (x, y), bright in self.bright_at.items()])

    def holds(self, place):
        """Whether a place is in the window."""
        x, y = place
        return 0 <= x < self.width and 0 <= y < self.height

    def says(self, place):
        """What the plate says of a place."""
        if place in self.bright_at:
            return ("star", self.bright_at[place])
        return ("under", self.limit) if self.holds(place) else UNSEEN


def window_places(plate):
    """The places of a plate's window, in order."""
    return [(x, y) for x in range(plate.width) for y in range(plate.height)]

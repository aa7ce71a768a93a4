"""Deeds, and the names, numbers and plates in them, as texts.

A deed is ("put", name, width, height, limit, stars), ("drop", name),
("tie", one, other, motion) or ("untie", number).
"""

from nightglass.errors import BadText
from nightglass.plates import LETTERS

FIGURES = "0123456789"

MOST_FIGURES = 100


def consists_of(word, signs):
    """Whether a word isn't empty and has no other signs than these."""
    return word != "" and all([sign in signs for sign in word])


def is_number(word):
    """Whether a word writes a number."""
    figures = word[1:] if word.startswith("-") else word
    if not consists_of(figures, FIGURES) or len(figures) > MOST_FIGURES:
        return False
    return word == "0" or not figures.startswith("0")


def read_word(word, kind):
    """The name or the number that a word writes."""
    if kind == "name" and consists_of(word, LETTERS):
        return word
    if kind == "number" and is_number(word):
        return int(word)
    raise BadText(0)


def read_words(words, kinds):
    """What the words write, each of them a name or a number as the kinds tell."""
    if len(words) != len(kinds):
        raise BadText(0)
    return [read_word(word, kind) for word, kind in zip(words, kinds)]


def read_star(word):
    """The star that a word writes."""
    return tuple(read_words(word.split(","), ("number", "number", "number")))


def read_plate(words):
    """The tuple (name, width, height, limit, stars) that the words of a plate write."""
    name, width, height, limit = read_words(words[:4], ("name", "number", "number", "number"))
    return (name, width, height, limit, tuple([read_star(word) for word in words[4:]]))


def numbers_text(numbers):
    """Some numbers, written with a blank between."""
    return " ".join([str(number) for number in numbers])


def plate_text(name, width, height, limit, stars):
    """The words of a plate, with a blank between, the stars in the order that they have."""
    star_words = [f"{x},{y},{bright}" for x, y, bright in stars]
    return " ".join([name, numbers_text([width, height, limit])] + star_words)


def deed_text(deed):
    """A deed, written."""
    word, *rest = deed
    if word == "put":
        name, width, height, limit, stars = rest
        return f"put {plate_text(name, width, height, limit, stars)}"
    if word == "tie":
        one, other, motion = rest
        return f"tie {one} {other} {numbers_text(motion)}"
    return f"{word} {rest[0]}"


def read_deed(text):
    """The deed that a text writes; BadText where it writes none."""
    word, *rest = text.split(" ")
    if word == "put":
        return ("put",) + read_plate(rest)
    if word == "drop":
        return ("drop", read_words(rest, ("name",))[0])
    if word == "tie":
        one, other, turn, right, up = read_words(rest, ("name", "name", "number", "number", "number"))
        return ("tie", one, other, (turn, right, up))
    if word == "untie":
        return ("untie", read_words(rest, ("number",))[0])
    raise BadText(0)

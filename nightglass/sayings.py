"""Sayings: what is known of a place, as the brightnesses that are left for it.

Each saying leaves all brightnesses from a least one to a greatest one. So a list of
sayings of which each two have a brightness in common has one that all have in common.
"""

from nightglass.errors import Denied

BRIGHTEST = 9

UNSEEN = ("unseen", 0)


def span(saying):
    """The least and the greatest brightness that a saying leaves."""
    word, number = saying
    if word == "star":
        return (number, number)
    if word == "under":
        return (0, number - 1)
    return (0, BRIGHTEST)


def common_span(sayings):
    """The span of what all leave; its least is above its greatest where that is nothing."""
    spans = [span(saying) for saying in sayings]
    least = max([low for low, high in spans], default=0)
    greatest = min([high for low, high in spans], default=BRIGHTEST)
    return (least, greatest)


def narrowest(least, greatest):
    """The saying that leaves the fewest brightnesses, among those that leave this span."""
    # Brightness 0 alone is no star.
    if least == greatest and least > 0:
        return ("star", least)
    # All other sayings begin at 0, so a span that begins higher is widened down to it.
    if greatest < BRIGHTEST:
        return ("under", greatest + 1)
    return UNSEEN


def agree(one, other):
    """Whether two sayings leave a brightness in common."""
    least, greatest = common_span([one, other])
    return least <= greatest


def joined(one, other):
    """The saying that leaves just what both leave; Denied where that is nothing."""
    return pool([one, other])


def pool(sayings):
    """The saying that leaves just what all of a list leave; Denied where two do not agree."""
    least, greatest = common_span(sayings)
    if least > greatest:
        raise Denied("the sayings leave no brightness in common")
    return narrowest(least, greatest)


def widened(sayings):
    """The narrowest saying that leaves all that any of a list leaves; the list isn't empty."""
    spans = [span(saying) for saying in sayings]
    least = min([low for low, high in spans])
    greatest = max([high for low, high in spans])
    return narrowest(least, greatest)

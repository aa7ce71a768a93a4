"""Layings: how the frame of one laid list can lie on the frame of another."""

from nightglass.errors import BadCount, NoLaying
from nightglass.motions import TURNS, back, leading, moved
from nightglass.sayings import UNSEEN, agree, joined, widened
from nightglass.skies import face, known, said


def meetings(ones, others, motion):
    """How many places of the ones' frame have a star of the same brightness by both lists."""
    bright_at = {(x, y): bright for x, y, bright in face(ones)}
    return len([
        bright for x, y, bright in face(others)
        if bright_at.get(moved(motion, (x, y))) == bright
    ])


def starred(told):
    """The pairs (place, saying) of a dict from places to sayings that have a star."""
    return [(place, saying) for place, saying in told.items() if saying[0] == "star"]


def star_meetings(one_stars, other_stars):
    """For each motion that lets some stars meet, how many places it does so at."""
    counts = {}
    for goal, saying in one_stars:
        for place, other_saying in other_stars:
            if saying == other_saying:
                for turn in range(len(TURNS)):
                    motion = leading(turn, place, goal)
                    counts[motion] = counts.get(motion, 0) + 1
    return counts


def lets_stars(told, stars, motion):
    """Whether what is told of places lets each of the stars be there, led by the motion."""
    for place, saying in stars:
        goal = moved(motion, place)
        if goal in told and not agree(told[goal], saying):
            return False
    return True


def layings(ones, others, least):
    """The motions, in order, by which the others' frame can lie on the ones'."""
    if least < 1:
        raise BadCount("at least one place has a star by both")
    here = known(ones)
    there = known(others)
    one_stars = starred(here)
    other_stars = starred(there)
    # As at least one star must meet another, no other motions than these can do. And two
    # sayings that are no stars always agree, so the stars of either list alone are asked.
    return sorted([
        motion for motion, count in star_meetings(one_stars, other_stars).items()
        if count >= least
        and lets_stars(here, other_stars, motion)
        and lets_stars(there, one_stars, back(motion))
    ])


def sure(ones, others, least, place):
    """The wide saying of what both lists say of a place of the ones' frame, over all layings."""
    found = layings(ones, others, least)
    if not found:
        raise NoLaying("no motion lays the others on the ones")
    here = said(ones, place)
    there = known(others)
    return widened([
        joined(here, there.get(moved(back(motion), place), UNSEEN)) for motion in found
    ])

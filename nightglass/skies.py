"""Skies: plates laid on a frame, a list of tuples (plate, motion), and their charts.

A laid plate's motion leads its places to the frame's. A chart is a list of rows
(x, y, word, number): a place of the frame, and the saying of it.
"""

from nightglass.motions import ORIGIN, TURNS, back, behind, leading, moved, turned
from nightglass.plates import window_places
from nightglass.sayings import agree, pool


def said(laid, place):
    """What is said of a place of the frame; Denied where two plates do not agree."""
    return pool([plate.says(moved(back(motion), place)) for plate, motion in laid])


def by_name(laid):
    """A laid list in order of the plates' names."""
    return sorted(laid, key=lambda row: row[0].name)


def first_denied(here, there, motion):
    """The first place of here's window where two plates do not agree, or None.

    The motion leads here's places to there's.
    """
    for place in window_places(here):
        if not agree(here.says(place), there.says(moved(motion, place))):
            return place
    return None


def unlike(laid, others):
    """The first (here, there, place) at which two lists on one frame do not agree, or None."""
    others_in_order = by_name(others)
    for here, here_motion in by_name(laid):
        for there, there_motion in others_in_order:
            place = first_denied(here, there, behind(here_motion, back(there_motion)))
            if place is not None:
                return (here.name, there.name, place)
    return None


def known(laid):
    """For each place of the frame in some plate's window what is said there, or Denied."""
    heard = {}
    for plate, motion in laid:
        for place in window_places(plate):
            heard.setdefault(moved(motion, place), []).append(plate.says(place))
    return {place: pool(sayings) for place, sayings in heard.items()}


def chart(laid):
    """The chart of a laid list, its rows in order; Denied where a place of it is refused."""
    return [(x, y, word, number) for (x, y), (word, number) in sorted(known(laid).items())]


def face(laid):
    """The stars (x, y, bright) of a laid list's chart, in order; Denied as the chart is."""
    return [(x, y, number) for x, y, word, number in chart(laid) if word == "star"]


def led_rows(rows, motion):
    """A chart's rows, their places led by a motion, in order again."""
    told = []
    for x, y, word, number in rows:
        goal_x, goal_y = moved(motion, (x, y))
        told.append((goal_x, goal_y, word, number))
    return sorted(told)


def corner(places):
    """The least x and the least y of some places."""
    return (min([x for x, y in places]), min([y for x, y in places]))


def cornering(turn, rows, goal):
    """The motion with this turn that leads a chart so that its corner is the goal."""
    turned_corner = corner([turned(turn, (x, y)) for x, y, word, number in rows])
    return behind((turn, 0, 0), leading(0, turned_corner, goal))


def cornerings(rows, goal):
    """For each turn, in order, the motion that leads a chart so that its corner is the goal."""
    return [cornering(turn, rows, goal) for turn in range(len(TURNS))]


def form(rows):
    """The least of a chart's eight turned rows, shifted so that the corner is (0, 0)."""
    return min([led_rows(rows, motion) for motion in cornerings(rows, ORIGIN)])


def matches(one, other):
    """The motions, in order, that lead the rows of the chart other to just those of one."""
    # A motion that leads one chart onto another leads corner to corner, so each turn has one
    # motion at most.
    goal = corner([(x, y) for x, y, word, number in one])
    return [motion for motion in cornerings(other, goal) if led_rows(other, motion) == sorted(one)]

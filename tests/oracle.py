"""What the document says, written out anew and as plainly as can be, to hold the program against.

A glass is a tuple (name, width, height, limit, stars), of which a Plate is made. A lay is a pair
(glass, motion); a list of lays is what the program is handed as a laid list of plates.
Nothing here calls the program but the makers at the end, which make its plates.
"""

import itertools

from nightglass.plates import Plate

TURNS = range(8)

# [2]'s table, word for word.
TABLE = {
    0: lambda x, y: (x, y),
    1: lambda x, y: (-y, x),
    2: lambda x, y: (-x, -y),
    3: lambda x, y: (y, -x),
    4: lambda x, y: (-x, y),
    5: lambda x, y: (-y, -x),
    6: lambda x, y: (x, -y),
    7: lambda x, y: (y, x),
}

STILL = (0, 0, 0)
HUNDRED = 10 ** 100 - 1
OTHER_HUNDRED = 7 * 10 ** 99 + 31

UNSEEN = ("unseen", 0)
SAYINGS = (
    [("star", number) for number in range(1, 10)]
    + [("under", number) for number in range(1, 10)]
    + [UNSEEN]
)
ALL = frozenset(range(10))


def led(motion, place):
    """Where a motion leads a place."""
    turn, right, up = motion
    x, y = TABLE[turn](place[0], place[1])
    return (x + right, y + up)


def led_from(motion, goal):
    """The one place that a motion leads to the goal, looked for among all that could be it."""
    turn, right, up = motion
    x, y = goal[0] - right, goal[1] - up
    tried = {(a * p, b * q) for p, q in ((x, y), (y, x)) for a in (1, -1) for b in (1, -1)}
    found = [place for place in tried if led(motion, place) == goal]
    assert len(found) == 1
    return found[0]


def left(saying):
    """The brightnesses that a saying leaves, as [3] tells them."""
    word, number = saying
    if word == "star":
        return frozenset([number])
    if word == "under":
        return frozenset(range(number))
    return ALL


BY_LEFT = {left(saying): saying for saying in SAYINGS}


def left_by_all(sayings):
    return ALL.intersection(*[left(saying) for saying in sayings])


def expected_wide(sayings):
    """The one of the nineteen that [3] asks for, looked up among all of them."""
    wanted = frozenset().union(*[left(saying) for saying in sayings])
    fitting = sorted([saying for saying in SAYINGS if wanted <= left(saying)], key=lambda s: len(left(s)))
    assert len(fitting) == 1 or len(left(fitting[0])) < len(left(fitting[1]))
    return fitting[0]


def window(glass):
    """The places of a glass's window, in order."""
    return [(x, y) for x in range(glass[1]) for y in range(glass[2])]


def glass_says(glass, place):
    """What a glass says of a place, as [4] tells it."""
    for x, y, bright in glass[4]:
        if (x, y) == place:
            return ("star", bright)
    return ("under", glass[3]) if place in window(glass) else UNSEEN


def voices(lays, place):
    """What each glass says of a place of the frame."""
    return [glass_says(glass, led_from(motion, place)) for glass, motion in lays]


def expected_said(lays, place):
    """The joined saying of a place of the frame, or None where it is refused."""
    return BY_LEFT.get(left_by_all(voices(lays, place)))


def frame_places(lays):
    """The places of the frame in some window, in order."""
    return sorted({led(motion, place) for glass, motion in lays for place in window(glass)})


def expected_chart(lays):
    """The chart of [9], or None where it is refused."""
    rows = [(place, expected_said(lays, place)) for place in frame_places(lays)]
    if any(saying is None for place, saying in rows):
        return None
    return [place + saying for place, saying in rows]


def expected_unlike(lays, others):
    """The first place of [8], by going through every glass, every other and every place of a window."""
    found = [
        (here[0], there[0], place)
        for here, motion in lays
        for there, other_motion in others
        for place in window(here)
        if not left(glass_says(here, place))
        & left(glass_says(there, led_from(other_motion, led(motion, place))))
    ]
    return min(found, default=None)


def led_lays(lays, motion):
    """Lays whose frame is led to another one; for each glass a motion that leads as both do."""
    return [(glass, put_together(own, motion)) for glass, own in lays]


def put_together(first, second):
    """The motion that leads as first and then second do, found by where three places come."""
    corners = [(0, 0), (1, 0), (0, 1)]
    goals = [led(second, led(first, place)) for place in corners]
    for turn in TURNS:
        motion = (turn, goals[0][0], goals[0][1])
        if [led(motion, place) for place in corners] == goals:
            return motion
    raise AssertionError("no motion leads so")


def led_chart(rows, motion):
    return sorted([led(motion, row[:2]) + row[2:] for row in rows])


def shifted_to_nought(rows):
    low_x = min([row[0] for row in rows])
    low_y = min([row[1] for row in rows])
    return sorted([(row[0] - low_x, row[1] - low_y) + row[2:] for row in rows])


def expected_form(rows):
    return sorted([shifted_to_nought(led_chart(rows, (turn, 0, 0))) for turn in TURNS])[0]


def expected_matches(one, other):
    """Every motion that leads the other's first row to some row of one, tried."""
    found = []
    for turn in TURNS:
        x, y = led((turn, 0, 0), other[0][:2])
        for row in one:
            motion = (turn, row[0] - x, row[1] - y)
            if led_chart(other, motion) == one:
                found.append(motion)
    return sorted(found)


def heard(lays):
    """For each place of the frame all that the glasses whose windows it lies in leave there, one set each."""
    told = {}
    for glass, motion in lays:
        for place in window(glass):
            told.setdefault(led(motion, place), []).append(left(glass_says(glass, place)))
    return told


def star_places(lays):
    rows = expected_chart(lays)
    return {(x, y): number for x, y, word, number in rows if word == "star"}


def expected_meetings(ones, others, motion):
    here = star_places(ones)
    there = {led(motion, place): bright for place, bright in star_places(others).items()}
    return len([place for place in here if here[place] == there.get(place)])


def all_layings(ones, others):
    """Each motion of all that could let two stars meet that keeps the lists from being unlike: its meetings."""
    here, there = heard(ones), heard(others)
    one_stars, other_stars = star_places(ones), star_places(others)
    reach = max([abs(number) for place in list(here) + list(there) for number in place], default=0) * 2
    told = {}
    for motion in itertools.product(TURNS, range(-reach, reach + 1), range(-reach, reach + 1)):
        met = [place for place, bright in other_stars.items() if one_stars.get(led(motion, place)) == bright]
        if met and not denied(here, there, motion):
            told[motion] = len(met)
    return told


def denied(here, there, motion):
    for place, lefts in there.items():
        for one, other in itertools.product(lefts, here.get(led(motion, place), [])):
            if not one & other:
                return True
    return False


def expected_sure(ones, others, motions, place):
    told = []
    for motion in motions:
        together = voices(ones, place) + voices(led_lays(others, motion), place)
        told.append(BY_LEFT[left_by_all(together)])
    return expected_wide(told)


def expected_layings(ones, others, least):
    """Every motion that lets some star meet another is tried; the lists may lie as far off as they like."""
    tried = set()
    for turn in TURNS:
        for place in star_places(others):
            x, y = led((turn, 0, 0), place)
            tried |= {(turn, goal[0] - x, goal[1] - y) for goal in star_places(ones)}
    return sorted([
        motion for motion in tried
        if expected_meetings(ones, others, motion) >= least
        and expected_unlike(ones, led_lays(others, motion)) is None
    ])


def laid(lays):
    """The program's laid list of some lays."""
    return [(Plate(*glass), motion) for glass, motion in lays]


def random_glass(rng, name, side=8, most=8, brights=range(1, 10)):
    """A glass with sides of up to so much and up to so many stars of these brightnesses."""
    width, height = rng.randint(1, side), rng.randint(1, side)
    limit = rng.randint(1, min(brights))
    places = [(x, y) for x in range(width) for y in range(height)]
    chosen = rng.sample(places, rng.randint(0, min(most, len(places))))
    return (name, width, height, limit, [(x, y, rng.choice(brights)) for x, y in chosen])


def random_motion(rng, far):
    return (rng.choice(TURNS), rng.randint(-far, far), rng.randint(-far, far))

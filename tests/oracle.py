"""What the document says, written out anew and as plainly as can be, to hold the program against.

A glass is a tuple (name, width, height, limit, stars), of which a Plate is made. A lay is a pair
(glass, motion); a list of lays is what the program is handed as a laid list of plates.
Nothing here calls the program but the makers at the end, which make its plates.
"""

from nightglass.plates import Plate

TURNS = range(8)

# [2]'s table, word for word.
TABLE = {
    0: lambda x, y: (x, y),
    1: lambda x, y: (-y, x),
    2: lambda x, y: (-x, -y),
    3: lambda x, y: (y, -x),
    4: lambda x, y: (-x, y),
    5: lambda x, y: (-y, -x),
    6: lambda x, y: (x, -y),
    7: lambda x, y: (y, x),
}

STILL = (0, 0, 0)
HUNDRED = 10 ** 100 - 1
OTHER_HUNDRED = 7 * 10 ** 99 + 31

UNSEEN = ("unseen", 0)
SAYINGS = (
    [("star", number) for number in range(1, 10)]
    + [("under", number) for number in range(1, 10)]
    + [UNSEEN]
)
ALL = frozenset(range(10))


def led(motion, place):
    """Where a motion leads a place."""
    turn, right, up = motion
    x, y = TABLE[turn](place[0], place[1])
    return (x + right, y + up)


def led_from(motion, goal):
    """The one place that a motion leads to the goal, looked for among all that could be it."""
    turn, right, up = motion
    x, y = goal[0] - right, goal[1] - up
    tried = {(a * p, b * q) for p, q in ((x, y), (y, x)) for a in (1, -1) for b in (1, -1)}
    found = [place for place in tried if led(motion, place) == goal]
    assert len(found) == 1
    return found[0]


def left(saying):
    """The brightnesses that a saying leaves, as [3] tells them."""
    word, number = saying
    if word == "star":
        return frozenset([number])
    if word == "under":
        return frozenset(range(number))
    return ALL


BY_LEFT = {left(saying): saying for saying in SAYINGS}


def left_by_all(sayings):
    return ALL.intersection(*[left(saying) for saying in sayings])


def expected_wide(sayings):
    """The one of the nineteen that [3] asks for, looked up among all of them."""
    wanted = frozenset().union(*[left(saying) for saying in sayings])
    fitting = sorted([saying for saying in SAYINGS if wanted <= left(saying)], key=lambda s: len(left(s)))
    assert len(fitting) == 1 or len(left(fitting[0])) < len(left(fitting[1]))
    return fitting[0]


def window(glass):
    """The places of a glass's window, in order."""
    return [(x, y) for x in range(glass[1]) for y in range(glass[2])]


def glass_says(glass, place):
    """What a glass says of a place, as [4] tells it."""
    for x, y, bright in glass[4]:
        if (x, y) == place:
            return ("star", bright)
    return ("under", glass[3]) if place in window(glass) else UNSEEN


def voices(lays, place):
    """What each glass says of a place of the frame."""
    return [glass_says(glass, led_from(motion, place)) for glass, motion in lays]


def expected_said(lays, place):
    """The joined saying of a place of the frame, or None where it is refused."""
    return BY_LEFT.get(left_by_all(voices(lays, place)))


def frame_places(lays):
    """The places of the frame in some window, in order."""
    return sorted({led(motion, place) for glass, motion in lays for place in window(glass)})


def expected_chart(lays):
    """The chart of [9], or None where it is refused."""
    rows = [(place, expected_said(lays, place)) for place in frame_places(lays)]
    if any(saying is None for place, saying in rows):
        return None
    return [place + saying for place, saying in rows]


def expected_unlike(lays, others):
    """The first place of [8], by going through every glass, every other and every place of a window."""
    found = [
        (here[0], there[0], place)
        for here, motion in lays
        for there, other_motion in others
        for place in window(here)
        if not left(glass_says(here, place))
        & left(glass_says(there, led_from(other_motion, led(motion, place))))
    ]
    return min(found, default=None)


def led_lays(lays, motion):
    """Lays whose frame is led to another one; for each glass a motion that leads as both do."""
    return [(glass, put_together(own, motion)) for glass, own in lays]


def put_together(first, second):
    """The motion that leads as first and then second do, found by where three places come."""
    corners = [(0, 0), (1, 0), (0, 1)]
    goals = [led(second, led(first, place)) for place in corners]
    for turn in TURNS:
        motion = (turn, goals[0][0], goals[0][1])
        if [led(motion, place) for place in corners] == goals:
            return motion
    raise AssertionError("no motion leads so")


def laid(lays):
    """The program's laid list of some lays."""
    return [(Plate(*glass), motion) for glass, motion in lays]


def random_glass(rng, name, side=8, most=8, brights=range(1, 10)):
    """A glass with sides of up to so much and up to so many stars of these brightnesses."""
    width, height = rng.randint(1, side), rng.randint(1, side)
    limit = rng.randint(1, min(brights))
    places = [(x, y) for x in range(width) for y in range(height)]
    chosen = rng.sample(places, rng.randint(0, min(most, len(places))))
    return (name, width, height, limit, [(x, y, rng.choice(brights)) for x, y in chosen])


def random_motion(rng, far):
    return (rng.choice(TURNS), rng.randint(-far, far), rng.randint(-far, far))

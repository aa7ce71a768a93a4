"""Motions: tuples (turn, right, up) that lead places to places."""

STILL = (0, 0, 0)

ORIGIN = (0, 0)

# For each turn: how often x and y go into the new x, then how often they go into the new y.
TURNS = (
    (1, 0, 0, 1),
    (0, -1, 1, 0),
    (-1, 0, 0, -1),
    (0, 1, -1, 0),
    (-1, 0, 0, 1),
    (0, -1, -1, 0),
    (1, 0, 0, -1),
    (0, 1, 1, 0),
)

# From this turn on a turn mirrors first; behind that it goes on like the one four below it.
MIRRORED = 4


def turned(turn, place):
    """The place to which a turn alone leads."""
    x, y = place
    x_to_x, y_to_x, x_to_y, y_to_y = TURNS[turn]
    return (x_to_x * x + y_to_x * y, x_to_y * x + y_to_y * y)


def turn_behind(first, second):
    """The turn that leads each place as the turn first and then the turn second do."""
    # Seen in a mirror, the quarter turns that were made ahead of it run the other way round.
    quarters = second - first if second >= MIRRORED else second + first
    # Two mirrors undo one another.
    mirrors = (first >= MIRRORED) != (second >= MIRRORED)
    return quarters % 4 + (MIRRORED if mirrors else 0)


def turn_back(turn):
    """The turn that takes a turn back."""
    # A turn that mirrors takes itself back.
    return turn if turn >= MIRRORED else -turn % 4


def moved(motion, place):
    """The place to which a motion leads a place."""
    turn, right, up = motion
    x, y = turned(turn, place)
    return (x + right, y + up)


def leading(turn, place, goal):
    """The motion with this turn that leads place to goal."""
    x, y = turned(turn, place)
    goal_x, goal_y = goal
    return (turn, goal_x - x, goal_y - y)


def behind(first, second):
    """The motion that leads each place as first and then second do."""
    turn = turn_behind(first[0], second[0])
    # A motion is settled by its turn and by where it leads one place.
    return leading(turn, ORIGIN, moved(second, moved(first, ORIGIN)))


def back(motion):
    """The motion that leads each place back to where motion took it from."""
    return leading(turn_back(motion[0]), moved(motion, ORIGIN), ORIGIN)

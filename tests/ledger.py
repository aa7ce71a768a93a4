"""What [13] to [20] say of a book, written out anew and as plainly as can be.

A ledger keeps nothing but the deeds that count and those that were taken back; what it holds is
reckoned anew from the first deed on each time that it is asked. Nothing here calls the program.
"""

from oracle import STILL, TURNS, expected_chart, expected_said, expected_unlike, led_lays, put_together

SMALL = "abcdefghijklmnopqrstuvwxyz"


class Refusal(Exception):
    """A refusal by the name of its error class, with that error's fields."""

    def __init__(self, name, **fields):
        Exception.__init__(self, name)
        self.name = name
        self.fields = fields


def led_back(motion):
    """The motion that takes another one back, looked for among those of all turns."""
    for turn in TURNS:
        x, y = put_together(motion, (turn, 0, 0))[1:]
        if put_together(motion, (turn, -x, -y)) == STILL:
            return (turn, -x, -y)
    raise AssertionError("no motion leads back")


def asked_plate(name, width, height, limit, stars):
    """BadName or BadPlate, as [4] tells."""
    if not (1 <= len(name) <= 8 and set(name) <= set(SMALL)):
        raise Refusal("BadName")
    fit = 1 <= width <= 8 and 1 <= height <= 8 and 1 <= limit <= 9 and len(stars) <= 8
    fit = fit and len({star[:2] for star in stars}) == len(stars)
    for x, y, bright in stars:
        fit = fit and 0 <= x < width and 0 <= y < height and limit <= bright <= 9
    if not fit:
        raise Refusal("BadPlate")


def chain_steps(ties, start):
    """Each chain from start that comes to no plate twice: its numbers, and its motion by its last plate."""
    ways = [(number, one, other, own) for number, one, other, own in ties]
    ways += [(number, other, one, led_back(own)) for number, one, other, own in ties]
    found = {start: [([], STILL)]}
    growing = [([], STILL, [start])]
    while growing:
        numbers, motion, names = growing.pop()
        for number, near, far, step in ways:
            if near == names[-1] and far not in names:
                grown = (numbers + [number], put_together(step, motion))
                found.setdefault(far, []).append(grown)
                growing.append(grown + (names + [far],))
    return found


def told_chain(ties, one, other):
    """One of the fewest ties, and of such ones the first in order; None where there is none."""
    found = [numbers for numbers, motion in chain_steps(ties, one).get(other, [])]
    return min(found, key=lambda numbers: (len(numbers), numbers), default=None)


def told_lie(ties, one, other):
    """What all chains tell alike, or None where there is none."""
    motions = {motion for numbers, motion in chain_steps(ties, one).get(other, [])}
    assert len(motions) <= 1
    return motions.pop() if motions else None


class Ledger:
    def __init__(self, deeds=(), undone=()):
        self.deeds = list(deeds)
        self.undone = list(undone)
        self.held_for = None

    def held(self):
        """The glasses by name, the ties, and the next number."""
        if self.held_for != self.deeds:
            self.reckoned = self.reckon()
            self.held_for = list(self.deeds)
        return self.reckoned

    def reckon(self):
        glasses, ties, coming = {}, [], 1
        for word, *rest in self.deeds:
            if word == "put":
                glasses[rest[0]] = tuple(rest)
            elif word == "drop":
                del glasses[rest[0]]
                ties = [tie for tie in ties if rest[0] not in tie[1:3]]
            elif word == "tie":
                ties.append((coming, *rest))
                coming += 1
            else:
                ties = [tie for tie in ties if tie[0] != rest[0]]
        return glasses, ties, coming

    def glasses(self):
        return self.held()[0]

    def ties(self):
        return self.held()[1]

    def coming(self):
        return self.held()[2]

    def need(self, *names):
        for name in names:
            if name not in self.glasses():
                raise Refusal("NoPlate")

    def do(self, deed):
        """Does a deed, and gives what a book tells of it."""
        word, *rest = deed
        told = None
        if word == "put":
            name, width, height, limit, stars = rest
            asked_plate(*rest)
            if name in self.glasses():
                raise Refusal("Taken")
            if len(self.glasses()) >= 12:
                raise Refusal("Full")
            deed = ("put", name, width, height, limit, tuple(sorted(stars)))
        elif word == "drop":
            self.need(rest[0])
        elif word == "tie":
            self.need_tie(*rest, full=True)
            told = self.coming()
        elif rest[0] not in [tie[0] for tie in self.ties()]:
            raise Refusal("NoTie")
        self.deeds.append(deed)
        self.undone = []
        return told

    def need_tie(self, one, other, motion, full=False, ties=None):
        ties = self.ties() if ties is None else ties
        self.need(one, other)
        if one == other:
            raise Refusal("SelfTie")
        if motion[0] not in TURNS:
            raise Refusal("BadMotion")
        if full and len(ties) >= 40:
            raise Refusal("Full")
        lie = told_lie(ties, one, other)
        if lie is not None and lie != motion:
            raise Refusal("Crossed", by=told_chain(ties, one, other))
        if lie is None:
            found = expected_unlike(self.lays(one, ties), led_lays(self.lays(other, ties), motion))
            if found is not None:
                raise Refusal("Unlike", here=found[0], there=found[1], place=found[2])

    def undo(self):
        if not self.deeds:
            raise Refusal("NoDeed")
        self.undone.append(self.deeds.pop())
        return self.undone[-1]

    def redo(self):
        if not self.undone:
            raise Refusal("NoDeed")
        self.deeds.append(self.undone.pop())
        return self.deeds[-1]

    def lays(self, name, ties=None):
        """A sky as lays on the frame of a name."""
        ties = self.ties() if ties is None else ties
        found = chain_steps(ties, name)
        return [(self.glasses()[other], ways[0][1]) for other, ways in found.items()]

    def names(self):
        return sorted(self.glasses())

    def window(self, name):
        self.need(name)
        return self.glasses()[name][1:4]

    def stars_of(self, name):
        self.need(name)
        return sorted(self.glasses()[name][4])

    def lies(self, one, other):
        self.need(one, other)
        return told_lie(self.ties(), one, other)

    def chain(self, one, other):
        self.need(one, other)
        return told_chain(self.ties(), one, other)

    def sky(self, name):
        self.need(name)
        return sorted(chain_steps(self.ties(), name))

    def skies(self):
        return [list(sky) for sky in sorted({tuple(self.sky(name)) for name in self.names()})]

    def ask(self, name, place):
        self.need(name)
        return expected_said(self.lays(name), place)

    def chart(self, name):
        self.need(name)
        return expected_chart(self.lays(name))

    def face(self, name):
        return [(x, y, number) for x, y, word, number in self.chart(name) if word == "star"]

    def carries(self, number):
        for tie in self.ties():
            if tie[0] == number:
                rest = [other for other in self.ties() if other != tie]
                return tie[2] not in chain_steps(rest, tie[1])
        raise Refusal("NoTie")

    def would(self, one, other, motion, ties=None):
        try:
            self.need_tie(one, other, motion, ties=ties)
        except Refusal as refusal:
            if refusal.name == "Crossed":
                return ("crossed", refusal.fields["by"])
            if refusal.name == "Unlike":
                return ("unlike", *refusal.fields.values())
            raise
        return ("let",)

    def mends(self, one, other, motion):
        if self.would(one, other, motion) == ("let",):
            return []
        return [
            tie[0] for tie in self.ties()
            if self.would(one, other, motion, [rest for rest in self.ties() if rest != tie]) == ("let",)
        ]

    def rows(self):
        """The book's rows, as [19] tells them."""
        told = []
        for name in self.names():
            width, height, limit = self.window(name)
            stars = "".join([" %d,%d,%d" % star for star in self.stars_of(name)])
            told.append("plate %s %d %d %d%s" % (name, width, height, limit, stars))
        for number, one, other, motion in self.ties():
            told.append("tie %d %s %s %d %d %d" % (number, one, other, *motion))
        return told + ["next %d" % self.coming()]


class Heaven:
    """A sky of which glasses are cut out, so that glasses laid as they were cut never deny one another."""

    def __init__(self, rng, far=5, stars=14, brights=range(3, 10)):
        self.rng = rng
        self.far = far
        places = [(x, y) for x in range(-far, far + 6) for y in range(-far, far + 6)]
        self.bright_at = {place: rng.choice(brights) for place in rng.sample(places, stars)}
        self.motion_of = {}

    def cut(self, name, side=4, limits=range(1, 10)):
        """A glass at a motion that is drawn by lot, each star of its window on it that its limit lets."""
        rng = self.rng
        width, height, limit = rng.randint(1, side), rng.randint(1, side), rng.choice(limits)
        motion = (rng.choice(TURNS), rng.randint(-self.far, self.far), rng.randint(-self.far, self.far))
        stars = []
        for x in range(width):
            for y in range(height):
                goal_x, goal_y = put_together((0, x, y), motion)[1:]
                bright = self.bright_at.get((goal_x, goal_y), 0)
                if bright >= limit:
                    stars.append((x, y, bright))
        if len(stars) > 8:
            return self.cut(name, side, limits)
        rng.shuffle(stars)
        self.motion_of[name] = motion
        return (name, width, height, limit, tuple(stars))

    def true_motion(self, one, other):
        """How the glass other lies to the glass one in this sky."""
        return put_together(self.motion_of[other], led_back(self.motion_of[one]))

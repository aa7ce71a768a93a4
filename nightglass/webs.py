"""Webs: the chains of ties that lead from plate to plate.

A tie is a tuple (number, one, other, motion); its motion leads other's places to one's.
"""

from nightglass.errors import BadChain
from nightglass.motions import STILL, back, behind


def leads(ties):
    """For each name a dict from the number of each tie at it, in order, to (name, motion).

    That name is the plate at the tie's other end; the motion leads its places to here.
    """
    told = {name: {} for number, one, other, motion in ties for name in (one, other)}
    for number, one, other, motion in sorted(ties):
        told[one][number] = (other, motion)
        told[other][number] = (one, back(motion))
    return told


def steps(ties, start):
    """The last step (before, number, name, motion) of the told chain to each name but start.

    The motion leads the name's places to those of the plate before it. The steps stand in the
    order of their chains: one of fewer ties ahead of one of more, those of as many in order.
    """
    led = leads(ties)
    reached = {start}
    told = []
    rim = [start]
    while rim:
        next_rim = []
        # The rim stands in the order of its told chains, the ties at a name in that of their
        # numbers. So the first step that comes to a name is the last one of its told chain.
        for before in rim:
            for number, (name, motion) in led.get(before, {}).items():
                if name not in reached:
                    reached.add(name)
                    told.append((before, number, name, motion))
                    next_rim.append(name)
        rim = next_rim
    return told


def chains(ties, start):
    """For each name that some chain leads to from start, the told chain."""
    told = {start: []}
    for before, number, name, motion in steps(ties, start):
        told[name] = told[before] + [number]
    return told


def frames(ties, start):
    """For each name that some chain leads to from start, the motion along the told chain."""
    told = {start: STILL}
    for before, number, name, motion in steps(ties, start):
        told[name] = behind(motion, told[before])
    return told


def walk(ties, chain, start):
    """The name at a chain's end, and the motion that leads its places to start's."""
    led = leads(ties)
    name = start
    whole = STILL
    for number in chain:
        ways = led.get(name, {})
        if number not in ways:
            raise BadChain("no tie of a number in the chain is at the plate that was come to")
        name, motion = ways[number]
        whole = behind(motion, whole)
    return (name, whole)

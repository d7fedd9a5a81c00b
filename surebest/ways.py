"""Shortest walks from a start with their lengths, or a ring that makes walks shorter without an end."""

from surebest.errors import NoWay
from surebest.networks import COST, FROM, TO, check_network, check_place, is_place


def is_shorter(lengths, arc):
    if lengths[arc[FROM]] is None:
        return False
    return lengths[arc[TO]] is None or lengths[arc[FROM]] + arc[COST] < lengths[arc[TO]]


def lower_once(arcs, lengths, lasts):
    """Goes once through the arcs, changes both lists, and gives the place lowered last, None if none was."""
    lowered = None
    for at, arc in enumerate(arcs):
        if is_shorter(lengths, arc):
            lowered = arc[TO]
            lengths[lowered] = lengths[arc[FROM]] + arc[COST]
            lasts[lowered] = at
    return lowered


def ring_behind(arcs, lasts, lowered):
    place = lowered
    # As many steps back as there are places: these lead into the ring, from wherever they begin.
    for step in range(len(lasts)):
        place = arcs[lasts[place]][FROM]
    ring = [lasts[place]]
    behind = arcs[lasts[place]][FROM]
    while behind != place:
        ring.append(lasts[behind])
        behind = arcs[lasts[behind]][FROM]
    return list(reversed(ring))


def nearest(places, arcs, start):
    check_network(places, arcs)
    check_place(places, start)
    lengths = [None] * places
    lasts = [None] * places
    lengths[start] = 0
    lowered = start
    for turn in range(places):
        lowered = lower_once(arcs, lengths, lasts)
    # Walks that come to no place twice have fewer arcs than there are places, so that without a ring
    # the last turn has nothing left to lower.
    if lowered is None:
        return ("ways", lengths, lasts)
    return ("ring", ring_behind(arcs, lasts, lowered), [])


def way_back(arcs, lasts, goal):
    way = []
    place = goal
    while lasts[place] is not None:
        way.append(lasts[place])
        place = arcs[lasts[place]][FROM]
    return list(reversed(way))


def way_to(places, arcs, start, goal):
    found = nearest(places, arcs, start)
    if found[0] == "ring":
        raise NoWay("a ring of a length below 0 can be come to from the start")
    if not is_place(places, goal):
        raise NoWay("the goal is no place of the network")
    if found[1][goal] is None:
        raise NoWay("no walk leads to the goal")
    return way_back(arcs, found[2], goal)


def length_of(arcs, way):
    return sum([arcs[at][COST] for at in way])


def is_walk(arcs, way, start, goal):
    place = start
    for at in way:
        if not is_place(len(arcs), at) or arcs[at][FROM] != place:
            return False
        place = arcs[at][TO]
    return place == goal

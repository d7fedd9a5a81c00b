"""Cheapest forests that join what arcs join, and for each arc left out the way that the forest has in its stead."""

from surebest.networks import COST, FROM, TO, check_network


def other_end(arc, place):
    return arc[TO] if arc[FROM] == place else arc[FROM]


def arcs_at(arcs, forest, place):
    return [at for at in forest if arcs[at][FROM] == place or arcs[at][TO] == place]


def last_arcs(arcs, forest, start):
    """The places that the forest joins with the start, each with the arc that comes last on the way there."""
    last = {start: None}
    row = [start]
    looked = 0
    while looked < len(row):
        for at in arcs_at(arcs, forest, row[looked]):
            end = other_end(arcs[at], row[looked])
            if end not in last:
                last[end] = at
                row.append(end)
        looked = looked + 1
    return last


def way_between(arcs, forest, start, goal):
    last = last_arcs(arcs, forest, start)
    if goal not in last:
        return None
    way = []
    place = goal
    while last[place] is not None:
        way.append(last[place])
        place = other_end(arcs[last[place]], place)
    return list(reversed(way))


def joined(places, arcs):
    check_network(places, arcs)
    taken = []
    # Sorting leaves arcs of like costs in the order in which they stand.
    for at in sorted(range(len(arcs)), key=lambda one: arcs[one][COST]):
        if way_between(arcs, taken, arcs[at][FROM], arcs[at][TO]) is None:
            taken.append(at)
    return sorted(taken)


def reasons(arcs, forest):
    found = {}
    for at, arc in enumerate(arcs):
        if at not in forest:
            found[at] = way_between(arcs, forest, arc[FROM], arc[TO])
    return found

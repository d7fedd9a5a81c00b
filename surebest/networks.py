"""Networks: flows and cuts, their sizes, and what a flow costs."""

# An arc is a tuple (from, to, room, cost); these are the places of its parts.
FROM = 0
TO = 1
ROOM = 2
COST = 3


def fits(arc, amount):
    # Any list may be asked about, and to Python the truths are ints, though they are no whole numbers.
    if isinstance(amount, bool) or not isinstance(amount, int):
        return False
    return 0 <= amount and amount <= arc[ROOM]


def gain_of(arcs, place, amounts):
    gain = 0
    for arc, amount in zip(arcs, amounts):
        # Two ifs, for an arc from a place to itself counts for both.
        if arc[TO] == place:
            gain = gain + amount
        if arc[FROM] == place:
            gain = gain - amount
    return gain


def is_flow(places, arcs, start, goal, amounts):
    if len(amounts) != len(arcs):
        return False
    for arc, amount in zip(arcs, amounts):
        if not fits(arc, amount):
            return False
    for place in range(places):
        if place != start and place != goal and gain_of(arcs, place, amounts) != 0:
            return False
    return True


def size_of(places, arcs, goal, amounts):
    return gain_of(arcs, goal, amounts)


def cut_size(arcs, side):
    return sum([arc[ROOM] for arc in arcs if arc[FROM] in side and arc[TO] not in side])


def cost_of(arcs, amounts):
    return sum([amount * arc[COST] for arc, amount in zip(arcs, amounts)])

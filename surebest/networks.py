"""Networks: what is one, flows and cuts, their sizes, and what a flow costs."""

from surebest.errors import NoNetwork

MOST_PLACES = 12
MOST_ARCS = 40

# An arc is a tuple (from, to, room, cost); these are the places of its parts.
FROM = 0
TO = 1
ROOM = 2
COST = 3


def is_place(places, place):
    return 0 <= place and place < places


def check_place(places, place):
    if not is_place(places, place):
        raise NoNetwork("a start or a goal is no place of the network")


def check_network(places, arcs):
    if places < 1 or places > MOST_PLACES:
        raise NoNetwork("a network has 1 to 12 places")
    if len(arcs) > MOST_ARCS:
        raise NoNetwork("a network has up to 40 arcs")
    for arc in arcs:
        if not is_place(places, arc[FROM]) or not is_place(places, arc[TO]):
            raise NoNetwork("an arc begins or ends at what is no place of the network")


def fits(arc, amount):
    # Any list may be asked about, and to Python the truths are ints, though they are no whole numbers.
    if isinstance(amount, bool) or not isinstance(amount, int):
        return False
    return 0 <= amount and amount <= arc[ROOM]


def gain_of(arcs, place, amounts):
    gain = 0
    for arc, amount in zip(arcs, amounts):
        # Two ifs, for an arc from a place to itself counts for both.
        if arc[TO] == place:
            gain = gain + amount
        if arc[FROM] == place:
            gain = gain - amount
    return gain


def is_flow(places, arcs, start, goal, amounts):
    if len(amounts) != len(arcs):
        return False
    for arc, amount in zip(arcs, amounts):
        if not fits(arc, amount):
            return False
    for place in range(places):
        if place != start and place != goal and gain_of(arcs, place, amounts) != 0:
            return False
    return True


def size_of(places, arcs, goal, amounts):
    return gain_of(arcs, goal, amounts)


def cut_size(arcs, side):
    return sum([arc[ROOM] for arc in arcs if arc[FROM] in side and arc[TO] not in side])


def cost_of(arcs, amounts):
    return sum([amount * arc[COST] for arc, amount in zip(arcs, amounts)])

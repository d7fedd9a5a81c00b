"""Greatest flows, each with a cut of its size: no flow is greater than any cut."""

from surebest.errors import NoNetwork
from surebest.networks import FROM, ROOM, TO, check_network, check_place, size_of

# A step is a tuple (place, arc, along): from that place along the arc of that number, where it has room
# left, or, with False behind, against it, where there is an amount to take back.


def check_question(places, arcs, start, goal):
    check_network(places, arcs)
    check_place(places, start)
    check_place(places, goal)
    if start == goal:
        raise NoNetwork("the start is the goal")
    for arc in arcs:
        if arc[ROOM] < 0:
            raise NoNetwork("an arc has a room below 0")


def steps_from(arcs, amounts, place):
    steps = []
    for at, arc in enumerate(arcs):
        if arc[FROM] == place and amounts[at] < arc[ROOM]:
            steps.append((place, at, True))
        if arc[TO] == place and amounts[at] > 0:
            steps.append((place, at, False))
    return steps


def end_of(arcs, step):
    arc = arcs[step[1]]
    return arc[TO] if step[2] else arc[FROM]


def last_steps(arcs, amounts, start):
    # Places come in the order of how many steps lead to them: where amounts are raised along fewest steps,
    # the number of times is bounded by places and arcs, however great the rooms are.
    found = {start: None}
    row = [start]
    looked = 0
    while looked < len(row):
        for step in steps_from(arcs, amounts, row[looked]):
            end = end_of(arcs, step)
            if end not in found:
                found[end] = step
                row.append(end)
        looked = looked + 1
    return found


def steps_to(last, goal):
    steps = []
    step = last[goal]
    while step is not None:
        steps.append(step)
        step = last[step[0]]
    return steps


def spare(arcs, amounts, step):
    amount = amounts[step[1]]
    return arcs[step[1]][ROOM] - amount if step[2] else amount


def raised(arcs, amounts, steps):
    more = min([spare(arcs, amounts, step) for step in steps])
    higher = list(amounts)
    for step in steps:
        higher[step[1]] = higher[step[1]] + (more if step[2] else -more)
    return higher


def greatest(places, arcs, start, goal):
    check_question(places, arcs, start, goal)
    amounts = [0] * len(arcs)
    last = last_steps(arcs, amounts, start)
    while goal in last:
        amounts = raised(arcs, amounts, steps_to(last, goal))
        last = last_steps(arcs, amounts, start)
    # No step leaves the places reached: arcs out of them are full and arcs into them are empty, so that
    # their cut's size is the flow's.
    return (amounts, sorted(last))


def greatest_size(places, arcs, start, goal):
    return size_of(places, arcs, goal, greatest(places, arcs, start, goal)[0])

"""What several tests share: plain sums that don't use the program, drawn networks, and what is no network."""

LONG = 10 ** 99 + 289
NINES = 10 ** 100 - 1


def plain_in(arcs, place, amounts):
    return sum(amounts[at] for at, (_, to, _, _) in enumerate(arcs) if to == place)


def plain_out(arcs, place, amounts):
    return sum(amounts[at] for at, (begin, _, _, _) in enumerate(arcs) if begin == place)


def plain_is_flow(places, arcs, start, goal, amounts):
    within = all(0 <= amount <= arc[2] for amount, arc in zip(amounts, arcs))
    inner = [place for place in range(places) if place not in (start, goal)]
    return within and all(plain_in(arcs, place, amounts) == plain_out(arcs, place, amounts) for place in inner)


def plain_cut_size(arcs, side):
    total = 0
    for begin, to, room, _ in arcs:
        if side.count(begin) > 0 and side.count(to) == 0:
            total += room
    return total


def plain_reached(arcs, start):
    """The places that walks from the start come to, rooms and costs left aside."""
    reached = {start}
    for _ in arcs:
        reached |= {to for begin, to, _, _ in arcs if begin in reached}
    return reached


def drawn_arcs(chance, places, many, least_room, most):
    return [
        (
            chance.randrange(places),
            chance.randrange(places),
            chance.randint(least_room, most),
            chance.randint(-most, most),
        )
        for _ in range(many)
    ]


# (places, arcs) that [1.1] refuses, whatever else is asked of them.
NO_NETWORKS = [
    (0, []),
    (-1, []),
    (13, []),
    (13, [(0, 1, 1, 1)]),
    (NINES, []),
    (-NINES, []),
    (2, [(0, 1, 1, 1)] * 41),
    (12, [(at % 12, (at + 1) % 12, 1, 1) for at in range(41)]),
    (2, [(0, 2, 1, 1)]),
    (2, [(2, 0, 1, 1)]),
    (2, [(0, -1, 1, 1)]),
    (2, [(-1, 0, 1, 1)]),
    (2, [(0, 1, 1, 1)] * 39 + [(1, 2, 1, 1)]),
    (2, [(2, 2, 1, 1)]),
    (12, [(0, 12, 1, 1)]),
    (12, [(NINES, 0, 1, 1)]),
    (12, [(0, -NINES, 1, 1)]),
]

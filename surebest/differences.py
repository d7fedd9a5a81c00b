"""Numbers whose differences are bounded, or a ring of bounds that no numbers can keep."""

from surebest.errors import NoNetwork
from surebest.networks import is_place
from surebest.ways import is_walk, length_of, nearest

# With a place for each number, an arc for each bound, and one place and an arc to each number more,
# these just make a network of 12 places and 40 arcs.
MOST_NUMBERS = 11
MOST_BOUNDS = 29

# A bound is a tuple (one, other, most); these are the places of its parts.
ONE = 0
OTHER = 1
MOST = 2


def names_numbers(many, bound):
    return is_place(many, bound[ONE]) and is_place(many, bound[OTHER])


def check_bounds(many, bounds):
    if many < 0 or many > MOST_NUMBERS:
        raise NoNetwork("there are up to 11 numbers")
    if len(bounds) > MOST_BOUNDS:
        raise NoNetwork("there are up to 29 bounds")
    for bound in bounds:
        if not names_numbers(many, bound):
            raise NoNetwork("a bound is of a number that is not there")


def arcs_of(bounds):
    # Lengths of shortest walks keep the bounds: an arc's end is at most its cost further than its beginning.
    return [(bound[OTHER], bound[ONE], 0, bound[MOST]) for bound in bounds]


def numbers_for(many, bounds):
    check_bounds(many, bounds)
    # From one more place arcs lead to all numbers. No arc leads back to it, so that a ring is of bounds alone.
    arcs = arcs_of(bounds) + [(many, number, 0, 0) for number in range(many)]
    found = nearest(many + 1, arcs, many)
    if found[0] == "ring":
        return ("ring", found[1])
    return ("numbers", found[1][:many])


def keeps_bound(numbers, bound):
    if not names_numbers(len(numbers), bound):
        return False
    return numbers[bound[ONE]] - numbers[bound[OTHER]] <= bound[MOST]


def kept(numbers, bounds):
    return all([keeps_bound(numbers, bound) for bound in bounds])


def is_ring(bounds, ring):
    if ring == [] or not is_place(len(bounds), ring[0]):
        return False
    first = bounds[ring[0]][OTHER]
    arcs = arcs_of(bounds)
    return is_walk(arcs, ring, first, first) and length_of(arcs, ring) < 0

"""Ratios: tuples (top, under) of whole numbers without a common divisor but 1, under above 0."""

from surebest.errors import NoRatio


def common_divisor(one, other):
    while other != 0:
        rest = one % other
        one = other
        other = rest
    return one


def ratio(top, under):
    if under == 0:
        raise NoRatio("there is no ratio by nought")
    divisor = common_divisor(abs(top), abs(under))
    # A divisor with the sign of under leaves under above 0.
    if under < 0:
        divisor = -divisor
    return (top // divisor, under // divisor)


def plus(one, other):
    return ratio(one[0] * other[1] + other[0] * one[1], one[1] * other[1])


def minus(one, other):
    return ratio(one[0] * other[1] - other[0] * one[1], one[1] * other[1])


def times(one, other):
    return ratio(one[0] * other[0], one[1] * other[1])


def over(one, other):
    # Where other is nought, so is the under here, and ratio refuses it.
    return ratio(one[0] * other[1], one[1] * other[0])


def is_less(one, other):
    # Both unders are above 0, so multiplying by them keeps the order.
    return one[0] * other[1] < other[0] * one[1]


def dot(row, other):
    found = (0, 1)
    for left, right in zip(row, other):
        found = plus(found, times(left, right))
    return found

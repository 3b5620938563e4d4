"""Fractions: pairs (above, below) of whole numbers with nothing in common, below 1 or more."""


def common_part(one, other):
    while other > 0:
        rest = one % other
        one = other
        other = rest
    return one


def fraction(above, below):
    common = common_part(above, below)
    return (above // common, below // common)


def difference(greater, lesser):
    above = greater[0] * lesser[1] - lesser[0] * greater[1]
    return fraction(above, greater[1] * lesser[1])


def is_less(one, other):
    return one[0] * other[1] < other[0] * one[1]


def told_fraction(pair):
    return [0, pair[0], pair[1]]

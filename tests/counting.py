"""What the document tells, counted draw by draw, in other ways than the program goes."""

from fractions import Fraction
from itertools import combinations, product
from math import prod


def rows(weights, draws):
    """Each row of draws, with how likely it is."""
    total = sum(weights)
    for row in product(range(len(weights)), repeat=draws):
        yield row, Fraction(prod(weights[kind] for kind in row), total ** draws)


def over_rows(weights, draws, value):
    return sum((likely * value(row) for row, likely in rows(weights, draws)), Fraction(0))


def had_sets(weights, had, draws):
    """How likely each set of kinds is had behind so many draws."""
    total = sum(weights)
    now = {frozenset(had): Fraction(1)}
    for step in range(draws):
        behind = {}
        for kinds, likely in now.items():
            for kind, weight in enumerate(weights):
                more = kinds | {kind}
                behind[more] = behind.get(more, 0) + likely * Fraction(weight, total)
        now = behind
    return now


def all_by(weights, had, draws):
    return had_sets(weights, had, draws).get(frozenset(range(len(weights))), Fraction(0))


def half(weights, had):
    total = sum(weights)
    full = frozenset(range(len(weights)))
    now = {frozenset(had): 1}
    draws = 0
    while 2 * now.get(full, 0) < total ** draws:
        behind = {}
        for kinds, heavy in now.items():
            for kind, weight in enumerate(weights):
                more = kinds | {kind}
                behind[more] = behind.get(more, 0) + heavy * weight
        now = behind
        draws += 1
    return draws


def mean(weights, had):
    """One draw, and then as it is on the average behind it."""
    lacking = [kind for kind in range(len(weights)) if kind not in had]
    if not lacking:
        return Fraction(0)
    behind = sum(weights[kind] * mean(weights, set(had) | {kind}) for kind in lacking)
    return Fraction(sum(weights) + behind) / sum(weights[kind] for kind in lacking)


def fresh(weights, had, draws):
    sets = had_sets(weights, had, draws)
    return sum((likely * (len(kinds) - len(had)) for kinds, likely in sets.items()), Fraction(0))


def products(weights, size):
    return sum(prod(chosen) for chosen in combinations(weights, size))


def count_rows(weights, draws):
    """Each way of how often each kind comes, with how likely it is: many rows at once."""
    total = sum(weights)
    now = {(0,) * len(weights): Fraction(1)}
    for step in range(draws):
        behind = {}
        for counts, likely in now.items():
            for kind, weight in enumerate(weights):
                more = counts[:kind] + (counts[kind] + 1,) + counts[kind + 1:]
                behind[more] = behind.get(more, 0) + likely * Fraction(weight, total)
        now = behind
    return now


def over_counts(weights, draws, value):
    return sum((likely * value(counts) for counts, likely in count_rows(weights, draws).items()), Fraction(0))


def kinds_rows(weights, draws):
    """For 0, 1 and so on up to all kinds how heavy the rows with just so many are, together: draw by draw."""
    heavy = [0] * (len(weights) + 1)
    for kinds, likely in had_sets(weights, (), draws).items():
        heavy[len(kinds)] += likely * sum(weights) ** draws
    return heavy


def mean_kinds(weights, draws):
    return fresh(weights, (), draws)


def urn_rows(more, balls, draws):
    """Each row of colours, with how heavy it is: an urn is drawn from, ball by ball."""
    for row in product(range(len(balls)), repeat=draws):
        urn = list(balls)
        heavy = 1
        for colour in row:
            heavy *= urn[colour]
            urn[colour] += more
        yield row, heavy


def over_urn(more, balls, draws, value):
    found = list(urn_rows(more, balls, draws))
    return Fraction(sum(heavy * value(row) for row, heavy in found), sum(heavy for row, heavy in found))


def box_sets(things, red, drawn):
    """Of each set of things drawn how many are red: the things below red are."""
    return [sum(thing < red for thing in chosen) for chosen in combinations(range(things), drawn)]


def box_likely(things, red, drawn):
    """How likely each number of red ones is, thing by thing."""
    now = {0: Fraction(1)}
    for gone in range(drawn):
        behind = {}
        for reds, likely in now.items():
            for more, left in ((1, red - reds), (0, things - gone - (red - reds))):
                if left > 0:
                    behind[reds + more] = behind.get(reds + more, 0) + likely * Fraction(left, things - gone)
        now = behind
    return now


def box_kth_at(things, red, k, n):
    """So many red ones before it, then a red one out of those that are left."""
    return box_likely(things, red, n - 1).get(k - 1, 0) * Fraction(red - k + 1, things - n + 1)


def first_greatest(numbers):
    return max(range(len(numbers)), key=lambda place: (numbers[place], -place))


def told(number):
    number = Fraction(number)
    return [0, number.numerator, number.denominator]

"""What the document tells, counted draw by draw, in other ways than the program goes."""

from fractions import Fraction
from itertools import combinations, product
from math import prod


def rows(weights, draws):
    """Each row of draws, with how likely it is."""
    total = sum(weights)
    for row in product(range(len(weights)), repeat=draws):
        yield row, Fraction(prod(weights[kind] for kind in row), total ** draws)


def over_rows(weights, draws, value):
    return sum((likely * value(row) for row, likely in rows(weights, draws)), Fraction(0))


def had_sets(weights, had, draws):
    """How likely each set of kinds is had behind so many draws."""
    total = sum(weights)
    now = {frozenset(had): Fraction(1)}
    for step in range(draws):
        behind = {}
        for kinds, likely in now.items():
            for kind, weight in enumerate(weights):
                more = kinds | {kind}
                behind[more] = behind.get(more, 0) + likely * Fraction(weight, total)
        now = behind
    return now


def all_by(weights, had, draws):
    return had_sets(weights, had, draws).get(frozenset(range(len(weights))), Fraction(0))


def half(weights, had):
    total = sum(weights)
    full = frozenset(range(len(weights)))
    now = {frozenset(had): 1}
    draws = 0
    while 2 * now.get(full, 0) < total ** draws:
        behind = {}
        for kinds, heavy in now.items():
            for kind, weight in enumerate(weights):
                more = kinds | {kind}
                behind[more] = behind.get(more, 0) + heavy * weight
        now = behind
        draws += 1
    return draws


def mean(weights, had):
    """One draw, and then as it is on the average behind it."""
    lacking = [kind for kind in range(len(weights)) if kind not in had]
    if not lacking:
        return Fraction(0)
    behind = sum(weights[kind] * mean(weights, set(had) | {kind}) for kind in lacking)
    return Fraction(sum(weights) + behind) / sum(weights[kind] for kind in lacking)


def fresh(weights, had, draws):
    sets = had_sets(weights, had, draws)
    return sum((likely * (len(kinds) - len(had)) for kinds, likely in sets.items()), Fraction(0))


def products(weights, size):
    return sum(prod(chosen) for chosen in combinations(weights, size))


def count_rows(weights, draws):
    """Each way of how often each kind comes, with how likely it is: many rows at once."""
    total = sum(weights)
    now = {(0,) * len(weights): Fraction(1)}
    for step in range(draws):
        behind = {}
        for counts, likely in now.items():
            for kind, weight in enumerate(weights):
                more = counts[:kind] + (counts[kind] + 1,) + counts[kind + 1:]
                behind[more] = behind.get(more, 0) + likely * Fraction(weight, total)
        now = behind
    return now


def over_counts(weights, draws, value):
    return sum((likely * value(counts) for counts, likely in count_rows(weights, draws).items()), Fraction(0))


def told(number):
    number = Fraction(number)
    return [0, number.numerator, number.denominator]

"""How many different kinds draws have: the sums behind the calls of the stage "How many kinds"."""

from albumwhole.allkinds import mean_fresh
from albumwhole.arithmetic import choices, power
from albumwhole.ratio import difference, fraction

MOST_NEEDED = 399


def with_kind(rows, weight, draws):
    """The rows with one kind more to draw from: it stays away, or it comes once or oftener."""
    longer = [[0] * (draws + 1) for kinds in range(len(rows) + 1)]
    placed = [power(weight, times) for times in range(draws + 1)]
    for kinds, by_length in enumerate(rows):
        for length, heavy in enumerate(by_length):
            longer[kinds][length] += heavy
            for times in range(1, draws - length + 1):
                longer[kinds + 1][length + times] += heavy * choices(length + times, times) * placed[times]
    return longer


def rows_by_kinds(weights, draws):
    """For 0, 1 and so on, up to all, how heavy all rows with just so many kinds are, together."""
    # By how many kinds, then by how many draws: at first the one row of no draws.
    rows = [[1] + [0] * draws]
    for weight in weights:
        rows = with_kind(rows, weight, draws)
    return [by_length[draws] for by_length in rows]


def likely_kinds(weights, draws, kinds):
    if kinds > len(weights):
        return (0, 1)
    return fraction(rows_by_kinds(weights, draws)[kinds], power(sum(weights), draws))


def mean_kinds(weights, draws):
    return mean_fresh(sum(weights), weights, draws)


def mean_even(weights, draws):
    return mean_kinds([1] * len(weights), draws)


def mean_added(weights, draws):
    return difference(mean_kinds(weights, draws + 1), mean_kinds(weights, draws))


def least_draws(weights, above, below):
    """The least number of draws with above by below kinds on the average, or more; None if it is too many."""
    total = sum(weights)
    every_row = 1
    rows_without = [1] * len(weights)
    for draws in range(MOST_NEEDED + 1):
        kinds_in_rows = len(weights) * every_row - sum(rows_without)
        if kinds_in_rows * below >= above * every_row:
            return draws
        # One draw more out of what each kind leaves: cheaper than each power anew.
        rows_without = [rows * (total - weight) for rows, weight in zip(rows_without, weights)]
        every_row = every_row * total
    return None

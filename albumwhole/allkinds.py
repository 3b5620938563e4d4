"""How long it takes till all kinds that are lacking have been drawn.

That some of a few kinds stay away is counted set by set, sets of odd size taken off:
only what a set weighs matters, so sets of one weight are counted together.
"""

from albumwhole.arithmetic import power
from albumwhole.ratio import fraction


def lacking_weights(weights, counts):
    return [weight for weight, count in zip(weights, counts) if count == 0]


def signed_sets(weights):
    """For each number how many sets weigh just that, those of even size less those of odd size."""
    signed = [1]
    for weight in weights:
        without = signed + [0] * weight
        within = [0] * weight + signed
        signed = [even - odd for even, odd in zip(without, within)]
    return signed


def mean_draws(total, lacking):
    above = 0
    below = 1
    for weight, signed in enumerate(signed_sets(lacking)):
        if weight > 0 and signed != 0:
            above = above * weight - signed * total * below
            below = below * weight
    return fraction(above, below)


def collector_mean(weights, counts):
    return mean_draws(sum(weights), lacking_weights(weights, counts))


def likely_all_by(total, lacking, draws):
    rows = 0
    for weight, signed in enumerate(signed_sets(lacking)):
        rows += signed * power(total - weight, draws)
    return fraction(rows, power(total, draws))


def half_draws(total, lacking):
    signed = signed_sets(lacking)
    weights = [weight for weight in range(len(signed)) if signed[weight] != 0]
    rows = [signed[weight] for weight in weights]
    every_row = 1
    draws = 0
    while 2 * sum(rows) < every_row:
        # One draw more out of what each set leaves: cheaper than each power anew.
        rows = [row * (total - weight) for row, weight in zip(rows, weights)]
        every_row = every_row * total
        draws += 1
    return draws


def mean_fresh(total, lacking, draws):
    every_row = power(total, draws)
    rows = sum([every_row - power(total - weight, draws) for weight in lacking])
    return fraction(rows, every_row)

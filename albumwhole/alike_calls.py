"""The calls of the stage "Alike", asked of the album's kinds and their weights."""

from albumwhole.alike import least_half, likely_alike, likely_different, likely_even_different, likely_first
from albumwhole.alike import likely_three, mean_first, mean_pairs, product_of_size, square_sum
from albumwhole.ratio import fraction, told_fraction
from albumwhole.refusals import FULL, MOST_KINDS, NO_KINDS, OUT_OF_RANGE, is_weight
from albumwhole.weighed import answer_behind_level, answer_of_draws, refused_draws, refused_kinds

MOST_DRAWS = 10


def answer_different(album, given):
    return answer_of_draws(album, given[0], MOST_DRAWS, likely_different)


def answer_alike(album, given):
    return answer_of_draws(album, given[0], MOST_DRAWS, likely_alike)


def answer_pairs(album, given):
    return answer_of_draws(album, given[0], MOST_DRAWS, mean_pairs)


def answer_three(album, given):
    return answer_of_draws(album, given[0], MOST_DRAWS, likely_three)


def answer_evendifferent(album, given):
    return answer_of_draws(album, given[0], MOST_DRAWS, likely_even_different)


def answer_first(album, given):
    if len(album.weights) > 0 and given[0] == 0:
        return [OUT_OF_RANGE]
    return answer_of_draws(album, given[0], MOST_DRAWS, likely_first)


def answer_alikehalf(album, given):
    if len(album.weights) == 0:
        return [NO_KINDS]
    return [least_half(album.weights)]


def answer_meanfirst(album, given):
    if len(album.weights) == 0:
        return [NO_KINDS]
    return told_fraction(mean_first(album.weights))


def answer_products(album, given):
    refused = refused_draws(album, given[0], MOST_DRAWS)
    if refused is not None:
        return refused
    return [0, product_of_size(album.weights, given[0])]


def answer_squares(album, given):
    if len(album.weights) == 0:
        return [NO_KINDS]
    return [square_sum(album.weights)]


def answer_with_more(album, given):
    weight = given[0]
    draws = given[1]
    if not is_weight(weight) or draws > MOST_DRAWS:
        return [OUT_OF_RANGE]
    if len(album.weights) == MOST_KINDS:
        return [FULL]
    return told_fraction(likely_different(album.weights + [weight], draws))


def answer_chance(album, given):
    refused = refused_kinds(album, given)
    if refused is not None:
        return refused
    return told_fraction(fraction(album.weights[given[0]], sum(album.weights)))


def answer_would(album, given):
    return answer_behind_level(album, given, MOST_DRAWS, likely_different)


ALIKE_CALLS = {
    21: answer_different,
    22: answer_alike,
    23: answer_pairs,
    24: answer_alikehalf,
    25: answer_first,
    26: answer_meanfirst,
    27: answer_evendifferent,
    28: answer_three,
    29: answer_products,
    30: answer_squares,
    31: answer_with_more,
    32: answer_chance,
    33: answer_would,
}


def answer_alike_call(album, number, given):
    """None where the call is another file's."""
    if number not in ALIKE_CALLS:
        return None
    return ALIKE_CALLS[number](album, given)

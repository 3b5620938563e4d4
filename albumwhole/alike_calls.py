"""The calls of the stage "Alike", asked of the album's kinds and their weights."""

from albumwhole.alike import least_half, levelled, likely_alike, likely_different, likely_first, likely_three
from albumwhole.alike import mean_first, mean_pairs, product_of_size, square_sum
from albumwhole.ratio import fraction, told_fraction
from albumwhole.refusals import FULL, MOST_KINDS, NO_KINDS, NO_SUCH, ODD_WEIGHTS, OUT_OF_RANGE, is_weight

MOST_DRAWS = 10


def refused_number(album, number):
    """None where nothing is refused."""
    if len(album.weights) == 0:
        return [NO_KINDS]
    if number > MOST_DRAWS:
        return [OUT_OF_RANGE]
    return None


def answer_by_number(album, number, likely):
    refused = refused_number(album, number)
    if refused is not None:
        return refused
    return told_fraction(likely(album.weights, number))


def answer_different(album, given):
    return answer_by_number(album, given[0], likely_different)


def answer_alike(album, given):
    return answer_by_number(album, given[0], likely_alike)


def answer_pairs(album, given):
    return answer_by_number(album, given[0], mean_pairs)


def answer_three(album, given):
    return answer_by_number(album, given[0], likely_three)


def answer_evendifferent(album, given):
    return answer_by_number(album, given[0], lambda weights, draws: likely_different([1] * len(weights), draws))


def answer_first(album, given):
    if len(album.weights) > 0 and given[0] == 0:
        return [OUT_OF_RANGE]
    return answer_by_number(album, given[0], likely_first)


def answer_alikehalf(album, given):
    if len(album.weights) == 0:
        return [NO_KINDS]
    return [least_half(album.weights)]


def answer_meanfirst(album, given):
    if len(album.weights) == 0:
        return [NO_KINDS]
    return told_fraction(mean_first(album.weights))


def answer_products(album, given):
    refused = refused_number(album, given[0])
    if refused is not None:
        return refused
    return [0, product_of_size(album.weights, given[0])]


def answer_squares(album, given):
    if len(album.weights) == 0:
        return [NO_KINDS]
    return [square_sum(album.weights)]


def answer_with_more(album, given):
    weight = given[0]
    draws = given[1]
    if not is_weight(weight) or draws > MOST_DRAWS:
        return [OUT_OF_RANGE]
    if len(album.weights) == MOST_KINDS:
        return [FULL]
    return told_fraction(likely_different(album.weights + [weight], draws))


def answer_chance(album, given):
    kind = given[0]
    if len(album.weights) == 0:
        return [NO_KINDS]
    if not album.has_kind(kind):
        return [NO_SUCH]
    return told_fraction(fraction(album.weights[kind], sum(album.weights)))


def answer_would(album, given):
    one = given[0]
    other = given[1]
    draws = given[2]
    weights = album.weights
    if len(weights) == 0:
        return [NO_KINDS]
    if not album.has_kind(one) or not album.has_kind(other):
        return [NO_SUCH]
    if draws > MOST_DRAWS or one == other:
        return [OUT_OF_RANGE]
    if (weights[one] + weights[other]) % 2 == 1:
        return [ODD_WEIGHTS]
    return told_fraction(likely_different(levelled(weights, one, other), draws))


ALIKE_CALLS = {
    21: answer_different,
    22: answer_alike,
    23: answer_pairs,
    24: answer_alikehalf,
    25: answer_first,
    26: answer_meanfirst,
    27: answer_evendifferent,
    28: answer_three,
    29: answer_products,
    30: answer_squares,
    31: answer_with_more,
    32: answer_chance,
    33: answer_would,
}


def answer_alike_call(album, number, given):
    """None where the call is another file's."""
    if number not in ALIKE_CALLS:
        return None
    return ALIKE_CALLS[number](album, given)

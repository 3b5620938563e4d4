"""The calls of the stage "How many kinds", asked of the album's kinds and their weights."""

from albumwhole.allkinds import likely_all_by, mean_fresh
from albumwhole.arithmetic import first_greatest
from albumwhole.manykinds import least_draws, likely_kinds, mean_added, mean_even, mean_kinds, rows_by_kinds
from albumwhole.ratio import told_fraction
from albumwhole.refusals import NEVER, NO_KINDS, OUT_OF_RANGE
from albumwhole.weighed import answer_behind_level, answer_of_draws, refused_draws, refused_kinds, refused_pair

MOST_DRAWS = 12
MOST_ABOVE = 100
MOST_BELOW = 100


def answer_justkinds(album, given):
    return answer_of_draws(album, given[0], MOST_DRAWS, lambda weights, draws: likely_kinds(weights, draws, given[1]))


def answer_allnumbers(album, given):
    refused = refused_draws(album, given[0], MOST_DRAWS)
    if refused is not None:
        return refused
    rows = rows_by_kinds(album.weights, given[0])
    return [len(rows)] + rows


def answer_meankinds(album, given):
    return answer_of_draws(album, given[0], MOST_DRAWS, mean_kinds)


def answer_adds(album, given):
    return answer_of_draws(album, given[0], MOST_DRAWS, mean_added)


def answer_likeliest(album, given):
    refused = refused_draws(album, given[0], MOST_DRAWS)
    if refused is not None:
        return refused
    return [first_greatest(rows_by_kinds(album.weights, given[0]))]


def answer_seen(album, given):
    kind = given[0]
    draws = given[1]
    refused = refused_kinds(album, [kind])
    if refused is not None:
        return refused
    if draws > MOST_DRAWS:
        return [OUT_OF_RANGE]
    return told_fraction(mean_fresh(sum(album.weights), [album.weights[kind]], draws))


def answer_evenkinds(album, given):
    return answer_of_draws(album, given[0], MOST_DRAWS, mean_even)


def answer_both(album, given):
    refused = refused_pair(album, given, MOST_DRAWS)
    if refused is not None:
        return refused
    pair = [album.weights[kind] for kind in given[:2]]
    return told_fraction(likely_all_by(sum(album.weights), pair, given[2]))


def answer_needed(album, given):
    above = given[0]
    below = given[1]
    if len(album.weights) == 0:
        return [NO_KINDS]
    if not 1 <= below <= MOST_BELOW or above > MOST_ABOVE:
        return [OUT_OF_RANGE]
    draws = least_draws(album.weights, above, below)
    return [NEVER] if draws is None else [draws]


def answer_wouldkinds(album, given):
    return answer_behind_level(album, given, MOST_DRAWS, mean_kinds)


def answer_mostkinds(album, given):
    if len(album.weights) == 0:
        return [NO_KINDS]
    return [min(given[0], len(album.weights))]


MANYKINDS_CALLS = {
    34: answer_justkinds,
    35: answer_allnumbers,
    36: answer_meankinds,
    37: answer_adds,
    38: answer_likeliest,
    39: answer_seen,
    40: answer_evenkinds,
    41: answer_both,
    42: answer_needed,
    43: answer_wouldkinds,
    44: answer_mostkinds,
}


def answer_manykinds_call(album, number, given):
    """None where the call is another file's."""
    if number not in MANYKINDS_CALLS:
        return None
    return MANYKINDS_CALLS[number](album, given)

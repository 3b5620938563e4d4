"""The calls about how many pictures it takes yet: the document's point 3."""

from albumwhole.allkinds import collector_mean, half_draws, lacking_weights, likely_all_by, mean_fresh
from albumwhole.ratio import difference, is_less, told_fraction
from albumwhole.refusals import NO_KINDS, NO_SUCH, OUT_OF_RANGE

MOST_ALLBY = 20
MOST_FRESH = 12


def answer_mean(album, given):
    collector = given[0]
    if not album.has_collector(collector):
        return [NO_SUCH]
    return told_fraction(collector_mean(album.weights, album.owned[collector]))


def answer_meanboth(album, given):
    together = [one + other for one, other in zip(album.owned[0], album.owned[1])]
    return told_fraction(collector_mean(album.weights, together))


def answer_by_draws(album, given, most, found):
    collector = given[0]
    draws = given[1]
    if not album.has_collector(collector):
        return [NO_SUCH]
    if draws > most:
        return [OUT_OF_RANGE]
    if len(album.weights) == 0:
        return [NO_KINDS]
    lacking = lacking_weights(album.weights, album.owned[collector])
    return told_fraction(found(sum(album.weights), lacking, draws))


def answer_allby(album, given):
    return answer_by_draws(album, given, MOST_ALLBY, likely_all_by)


def answer_half(album, given):
    collector = given[0]
    if not album.has_collector(collector):
        return [NO_SUCH]
    if len(album.weights) == 0:
        return [NO_KINDS]
    lacking = lacking_weights(album.weights, album.owned[collector])
    return [half_draws(sum(album.weights), lacking)]


def answer_worth(album, given):
    collector = given[0]
    kind = given[1]
    if not album.has_pair(collector, kind):
        return [NO_SUCH]
    with_it = list(album.owned[collector])
    with_it[kind] += 1
    mean_now = collector_mean(album.weights, album.owned[collector])
    return told_fraction(difference(mean_now, collector_mean(album.weights, with_it)))


def answer_ahead(album, given):
    one = collector_mean(album.weights, album.owned[0])
    other = collector_mean(album.weights, album.owned[1])
    if is_less(one, other):
        return [1]
    if is_less(other, one):
        return [2]
    return [0]


def answer_fresh(album, given):
    return answer_by_draws(album, given, MOST_FRESH, mean_fresh)


WAITING_CALLS = {
    6: answer_mean,
    7: answer_meanboth,
    8: answer_allby,
    9: answer_half,
    14: answer_worth,
    17: answer_ahead,
    18: answer_fresh,
}


def answer_waiting(album, number, given):
    """None where the call is another file's."""
    if number not in WAITING_CALLS:
        return None
    return WAITING_CALLS[number](album, given)

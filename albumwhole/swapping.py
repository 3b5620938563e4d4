"""The calls about swaps: the document's point 2."""

from albumwhole.allkinds import collector_mean
from albumwhole.ratio import is_less
from albumwhole.refusals import DOES_NOT_SERVE, NO_SUCH


def is_sellable(seller, buyer, kind):
    return seller[kind] > 1 and buyer[kind] == 0


def sellable_kinds(seller, buyer):
    return [kind for kind in range(len(seller)) if is_sellable(seller, buyer, kind)]


def serving_swaps(owned):
    swaps = []
    for given_kind in sellable_kinds(owned[0], owned[1]):
        for taken_kind in sellable_kinds(owned[1], owned[0]):
            swaps.append((given_kind, taken_kind))
    return swaps


def behind_swap(owned, swap):
    """What both have then, in lists of its own: what is only asked about must not be changed."""
    counts = [list(owned[0]), list(owned[1])]
    counts[0][swap[0]] -= 1
    counts[1][swap[0]] += 1
    counts[1][swap[1]] -= 1
    counts[0][swap[1]] += 1
    return counts


def greater_mean(weights, owned):
    one = collector_mean(weights, owned[0])
    other = collector_mean(weights, owned[1])
    return other if is_less(one, other) else one


def answer_swap(album, given):
    if not album.has_kind(given[0]) or not album.has_kind(given[1]):
        return [NO_SUCH]
    swap = (given[0], given[1])
    if swap not in serving_swaps(album.owned):
        return [DOES_NOT_SERVE]
    album.owned = behind_swap(album.owned, swap)
    return [len(serving_swaps(album.owned))]


def answer_swaps(album, given):
    swaps = serving_swaps(album.owned)
    answer = [len(swaps)]
    for swap in swaps:
        answer.extend(swap)
    return answer


def answer_fairest(album, given):
    fairest = None
    least = None
    for swap in serving_swaps(album.owned):
        mean = greater_mean(album.weights, behind_swap(album.owned, swap))
        if fairest is None or is_less(mean, least):
            fairest = swap
            least = mean
    if fairest is None:
        return [DOES_NOT_SERVE]
    return list(fairest)


def answer_most(album, given):
    owned = album.owned
    made = 0
    swaps = serving_swaps(owned)
    while len(swaps) > 0:
        owned = behind_swap(owned, swaps[0])
        made += 1
        swaps = serving_swaps(owned)
    return [made]


def answer_sells(album, given):
    collector = given[0]
    kind = given[1]
    if not album.has_pair(collector, kind):
        return [NO_SUCH]
    if is_sellable(album.owned[collector], album.owned[1 - collector], kind):
        return [1]
    return [0]


SWAPPING_CALLS = {
    4: answer_swap,
    10: answer_swaps,
    11: answer_fairest,
    12: answer_most,
    13: answer_sells,
}


def answer_swapping(album, number, given):
    """None where the call is another file's."""
    if number not in SWAPPING_CALLS:
        return None
    return SWAPPING_CALLS[number](album, given)

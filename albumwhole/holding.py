"""The calls that tell and change what the collectors have: the document's points 1 and 4."""

from albumwhole.refusals import FULL, HAS_NONE, MOST_KINDS, NO_SUCH, OUT_OF_RANGE, is_weight

MOST_PICTURES = 100
# A packet may hold three alike, so its room is asked for thrice, whatever it holds.
PACKET_SIZE = 3


def lacking_kinds(counts):
    return [kind for kind in range(len(counts)) if counts[kind] == 0]


def answer_kind(album, given):
    weight = given[0]
    if not is_weight(weight):
        return [OUT_OF_RANGE]
    if len(album.weights) == MOST_KINDS:
        return [FULL]
    album.add_kind(weight)
    return [len(album.weights) - 1]


def answer_got(album, given):
    collector = given[0]
    kind = given[1]
    if not album.has_pair(collector, kind):
        return [NO_SUCH]
    if album.owned[collector][kind] >= MOST_PICTURES:
        return [FULL]
    album.add_picture(collector, kind)
    return [album.owned[collector][kind]]


def answer_give(album, given):
    collector = given[0]
    kind = given[1]
    if not album.has_pair(collector, kind):
        return [NO_SUCH]
    other = 1 - collector
    if album.owned[collector][kind] == 0:
        return [HAS_NONE]
    if album.owned[other][kind] >= MOST_PICTURES:
        return [FULL]
    album.take_picture(collector, kind)
    album.add_picture(other, kind)
    return [album.owned[collector][kind]]


def answer_packet(album, given):
    collector = given[0]
    kinds = given[1:]
    if not all([album.has_pair(collector, kind) for kind in kinds]):
        return [NO_SUCH]
    counts = album.owned[collector]
    if any([counts[kind] > MOST_PICTURES - PACKET_SIZE for kind in kinds]):
        return [FULL]
    album.packets += 1
    for kind in kinds:
        album.add_picture(collector, kind)
    return [len(lacking_kinds(album.owned[collector]))]


def answer_lacking(album, given):
    collector = given[0]
    if not album.has_collector(collector):
        return [NO_SUCH]
    kinds = lacking_kinds(album.owned[collector])
    return [len(kinds)] + kinds


def answer_doubles(album, given):
    collector = given[0]
    if not album.has_collector(collector):
        return [NO_SUCH]
    return [sum([count - 1 for count in album.owned[collector] if count > 1])]


def answer_bought(album, given):
    return [album.packets]


def answer_told(album, given):
    collector = given[0]
    if not album.has_collector(collector):
        return [NO_SUCH]
    counts = album.owned[collector]
    return [len(counts)] + counts


HOLDING_CALLS = {
    1: answer_kind,
    2: answer_got,
    3: answer_give,
    5: answer_packet,
    15: answer_lacking,
    16: answer_doubles,
    19: answer_bought,
    20: answer_told,
}


def answer_holding(album, number, given):
    """None where the call is another file's."""
    if number not in HOLDING_CALLS:
        return None
    return HOLDING_CALLS[number](album, given)

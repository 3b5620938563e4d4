"""What the calls of "Alike" and "How many kinds" share: both are asked of the album's kinds and their weights."""

from albumwhole.ratio import told_fraction
from albumwhole.refusals import NO_KINDS, NO_SUCH, ODD_WEIGHTS, OUT_OF_RANGE


def refused_draws(album, draws, most):
    """None where nothing is refused."""
    if len(album.weights) == 0:
        return [NO_KINDS]
    if draws > most:
        return [OUT_OF_RANGE]
    return None


def answer_of_draws(album, draws, most, found):
    refused = refused_draws(album, draws, most)
    if refused is not None:
        return refused
    return told_fraction(found(album.weights, draws))


def refused_kinds(album, kinds):
    """None where nothing is refused."""
    if len(album.weights) == 0:
        return [NO_KINDS]
    if not all([album.has_kind(kind) for kind in kinds]):
        return [NO_SUCH]
    return None


def refused_pair(album, given, most):
    """For two kinds and how many draws; None where nothing is refused."""
    refused = refused_kinds(album, given[:2])
    if refused is not None:
        return refused
    if given[2] > most or given[0] == given[1]:
        return [OUT_OF_RANGE]
    return None


def levelled(weights, one, other):
    """The weights, in a list of its own, with both made alike; they must be even together."""
    level = (weights[one] + weights[other]) // 2
    new_weights = list(weights)
    new_weights[one] = level
    new_weights[other] = level
    return new_weights


def answer_behind_level(album, given, most, found):
    refused = refused_pair(album, given, most)
    if refused is not None:
        return refused
    one = given[0]
    other = given[1]
    if (album.weights[one] + album.weights[other]) % 2 == 1:
        return [ODD_WEIGHTS]
    return told_fraction(found(levelled(album.weights, one, other), given[2]))

"""The calls of the stage "Not put back": of things that each call tells, and not of the album.

Ahead of all else each is given how many things there are, then how many of them are red.
"""

from albumwhole.arithmetic import first_greatest
from albumwhole.box import likeliest_red, likely_at_least, likely_just, likely_kth_at, mean_kth, mean_red
from albumwhole.box import red_spread, sets_by_red
from albumwhole.ratio import is_less, told_fraction
from albumwhole.refusals import NEVER, OUT_OF_RANGE, TOO_FEW_LEFT, TOO_FEW_RED

MOST_THINGS = 24
MOST_BELOW = 1000


def refused_box(given):
    """None where there can be such things."""
    if not 1 <= given[0] <= MOST_THINGS or given[1] > given[0]:
        return [OUT_OF_RANGE]
    return None


def refused_drawn(given):
    """None where nothing is refused."""
    if refused_box(given) is not None or given[2] > given[0]:
        return [OUT_OF_RANGE]
    return None


def refused_kth(given):
    """None where nothing is refused."""
    refused = refused_box(given)
    if refused is not None:
        return refused
    if given[2] == 0 or given[2] > given[1]:
        return [TOO_FEW_RED]
    return None


def answer_of_drawn(given, found):
    refused = refused_drawn(given)
    if refused is not None:
        return refused
    return told_fraction(found(given[0], given[1], given[2]))


def answer_boxjust(given):
    return answer_of_drawn(given, lambda things, red, drawn: likely_just(things, red, drawn, given[3]))


def answer_boxall(given):
    refused = refused_drawn(given)
    if refused is not None:
        return refused
    sets = sets_by_red(given[0], given[1], given[2])
    return [len(sets)] + sets


def answer_boxlikeliest(given):
    refused = refused_drawn(given)
    if refused is not None:
        return refused
    return [first_greatest(sets_by_red(given[0], given[1], given[2]))]


def answer_boxmean(given):
    return answer_of_drawn(given, mean_red)


def answer_boxspread(given):
    if refused_drawn(given) is None and given[0] < 2:
        return [TOO_FEW_LEFT]
    return answer_of_drawn(given, red_spread)


def answer_boxatleast(given):
    return answer_of_drawn(given, lambda things, red, drawn: likely_at_least(things, red, drawn, given[3]))


def answer_boxneeded(given):
    refused = refused_box(given)
    if refused is not None:
        return refused
    likely = (given[3], given[4])
    if not 1 <= likely[1] <= MOST_BELOW or likely[0] > likely[1]:
        return [OUT_OF_RANGE]
    for drawn in range(given[0] + 1):
        if not is_less(likely_at_least(given[0], given[1], drawn, given[2]), likely):
            return [drawn]
    return [NEVER]


def answer_boxkthat(given):
    refused = refused_kth(given)
    if refused is not None:
        return refused
    if not 1 <= given[3] <= given[0]:
        return [OUT_OF_RANGE]
    return told_fraction(likely_kth_at(given[0], given[1], given[2], given[3]))


def answer_boxkthmean(given):
    refused = refused_kth(given)
    if refused is not None:
        return refused
    return told_fraction(mean_kth(given[0], given[1], given[2]))


def answer_boxswapped(given):
    return answer_of_drawn(given, lambda things, red, drawn: likely_just(things, drawn, red, given[3]))


def answer_boxguess(given):
    refused = refused_drawn(given)
    if refused is not None:
        return refused
    if given[3] > given[2]:
        return [OUT_OF_RANGE]
    return [likeliest_red(given[0], given[2], given[3])]


def answer_boxcertain(given):
    refused = refused_box(given)
    if refused is not None:
        return refused
    if given[2] > given[1]:
        return [TOO_FEW_RED]
    # None red is certain at once; for more the others may all come first.
    if given[2] == 0:
        return [0]
    return [given[0] - given[1] + given[2]]


BOX_CALLS = {
    55: answer_boxjust,
    56: answer_boxall,
    57: answer_boxlikeliest,
    58: answer_boxmean,
    59: answer_boxspread,
    60: answer_boxatleast,
    61: answer_boxneeded,
    62: answer_boxkthat,
    63: answer_boxkthmean,
    64: answer_boxswapped,
    65: answer_boxguess,
    66: answer_boxcertain,
}


def answer_box_call(album, number, given):
    """None where the call is another file's."""
    if number not in BOX_CALLS:
        return None
    return BOX_CALLS[number](given)

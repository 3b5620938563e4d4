"""The calls of the stage "Given back with more": of an urn that each call tells, and not of the album.

Ahead of all else each is given how many more come with a ball, then how many balls there are of either colour.
"""

from albumwhole.arithmetic import first_greatest
from albumwhole.ratio import told_fraction
from albumwhole.refusals import NO_BALLS, NO_SUCH, OUT_OF_RANGE
from albumwhole.urn import likely_one_colour, likely_row, likely_times, mean_balls, mean_times, rows_by_times

COLOURS = 2
MOST_MORE = 5
MOST_BALLS = 10
MOST_ROW = 6
MOST_DRAWS = 8
MOST_FAR_DRAWS = 1000


def is_colour(number):
    return number < COLOURS


def refused_urn(given):
    """None where there is such an urn, with a ball in it."""
    if given[0] > MOST_MORE or given[1] > MOST_BALLS or given[2] > MOST_BALLS:
        return [OUT_OF_RANGE]
    if given[1] + given[2] == 0:
        return [NO_BALLS]
    return None


def refused_colours(given, colours):
    """None where nothing is refused."""
    refused = refused_urn(given)
    if refused is not None:
        return refused
    if not all([is_colour(colour) for colour in colours]):
        return [NO_SUCH]
    return None


def refused_draws_of_colour(given, most):
    """None where nothing is refused."""
    refused = refused_colours(given, given[3:4])
    if refused is not None:
        return refused
    if given[4] > most:
        return [OUT_OF_RANGE]
    return None


def answer_next_colours(given):
    """How likely the next draws have all the colours told, in order: one for urnchance, two for urntwo."""
    colours = given[3:]
    refused = refused_colours(given, colours)
    if refused is not None:
        return refused
    return told_fraction(likely_row(given[0], given[1:3], colours))


def answer_urnrow(given):
    refused = refused_urn(given)
    if refused is not None:
        return refused
    draws = given[3]
    row = given[4:4 + draws]
    if draws > MOST_ROW or not all([is_colour(colour) for colour in row]):
        return [OUT_OF_RANGE]
    return told_fraction(likely_row(given[0], given[1:3], row))


def answer_urncounts(given):
    refused = refused_urn(given)
    if refused is not None:
        return refused
    times = given[3]
    draws = times + given[4]
    if draws > MOST_DRAWS:
        return [OUT_OF_RANGE]
    return told_fraction(likely_times(given[0], given[1:3], 0, draws, times))


def answer_urnjust(given):
    refused = refused_draws_of_colour(given, MOST_DRAWS)
    if refused is not None:
        return refused
    return told_fraction(likely_times(given[0], given[1:3], given[3], given[4], given[5]))


def answer_urnall(given):
    refused = refused_draws_of_colour(given, MOST_DRAWS)
    if refused is not None:
        return refused
    rows = rows_by_times(given[0], given[1:3], given[3], given[4])
    return [len(rows)] + rows


def answer_urnmean(given):
    refused = refused_draws_of_colour(given, MOST_FAR_DRAWS)
    if refused is not None:
        return refused
    return told_fraction(mean_times(given[1:3], given[3], given[4]))


def answer_urnthen(given):
    refused = refused_draws_of_colour(given, MOST_FAR_DRAWS)
    if refused is not None:
        return refused
    return told_fraction(mean_balls(given[0], given[1:3], given[3], given[4]))


def answer_urnlikeliest(given):
    refused = refused_draws_of_colour(given, MOST_DRAWS)
    if refused is not None:
        return refused
    return [first_greatest(rows_by_times(given[0], given[1:3], given[3], given[4]))]


def answer_urnone(given):
    refused = refused_urn(given)
    if refused is not None:
        return refused
    if given[3] > MOST_DRAWS:
        return [OUT_OF_RANGE]
    return told_fraction(likely_one_colour(given[0], given[1:3], given[3]))


URN_CALLS = {
    45: answer_next_colours,
    46: answer_urnrow,
    47: answer_urncounts,
    48: answer_urnjust,
    49: answer_urnall,
    50: answer_next_colours,
    51: answer_urnmean,
    52: answer_urnthen,
    53: answer_urnlikeliest,
    54: answer_urnone,
}


def answer_urn_call(album, number, given):
    """None where the call is another file's."""
    if number not in URN_CALLS:
        return None
    return URN_CALLS[number](given)

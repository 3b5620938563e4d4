"""Things drawn and not put back, some of them red: the sums behind the stage "Not put back"."""

from albumwhole.arithmetic import choices, first_greatest
from albumwhole.ratio import fraction


def sets_with(things, red, drawn, drawn_red):
    """How many sets of so many drawn have just so many red ones; no more red ones than drawn."""
    return choices(red, drawn_red) * choices(things - red, drawn - drawn_red)


def sets_by_red(things, red, drawn):
    return [sets_with(things, red, drawn, drawn_red) for drawn_red in range(drawn + 1)]


def likely_just(things, red, drawn, drawn_red):
    if drawn_red > drawn:
        return (0, 1)
    return fraction(sets_with(things, red, drawn, drawn_red), choices(things, drawn))


def likely_at_least(things, red, drawn, least_red):
    return fraction(sum(sets_by_red(things, red, drawn)[least_red:]), choices(things, drawn))


def mean_red(things, red, drawn):
    return fraction(drawn * red, things)


def red_spread(things, red, drawn):
    """How far the number of red ones is from its average, squared, on the average; of two things or more."""
    above = drawn * red * (things - red) * (things - drawn)
    return fraction(above, things * things * (things - 1))


def likely_kth_at(things, red, place, draw):
    """How likely the red one of that place among the red ones comes just with that draw."""
    ways = choices(draw - 1, place - 1) * choices(things - draw, red - place)
    return fraction(ways, choices(things, red))


def mean_kth(things, red, place):
    """The red ones part the others into runs that are as long as one another, on the average."""
    return fraction(place * (things + 1), red + 1)


def likeliest_red(things, drawn, drawn_red):
    """How many things are red, if so many drawn have just so many red ones: the likeliest number."""
    return first_greatest([sets_with(things, red, drawn, drawn_red) for red in range(things + 1)])

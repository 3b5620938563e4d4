"""An urn of two colours, each ball put back with more of its colour: the sums behind "Given back with more".

How heavy a row is goes by how many draws of each colour it has alone, in whatever order.
"""

from albumwhole.arithmetic import choices
from albumwhole.ratio import fraction


def heavy_draws(balls, more, draws):
    """How many such balls there are, draw by draw, multiplied, if each draw is one of them."""
    heavy = 1
    for step in range(draws):
        heavy = heavy * (balls + more * step)
    return heavy


def heavy_row(more, balls, times):
    """How heavy a row is that has each colour so many times."""
    return heavy_draws(balls[0], more, times[0]) * heavy_draws(balls[1], more, times[1])


def likely_row(more, balls, row):
    heavy = heavy_row(more, balls, [row.count(0), row.count(1)])
    return fraction(heavy, heavy_draws(sum(balls), more, len(row)))


def rows_by_times(more, balls, colour, draws):
    """For 0 to all draws how heavy all rows are, together, of which so many have the colour."""
    turned = [balls[colour], balls[1 - colour]]
    return [
        choices(draws, times) * heavy_row(more, turned, [times, draws - times])
        for times in range(draws + 1)
    ]


def likely_times(more, balls, colour, draws, times):
    if times > draws:
        return (0, 1)
    rows = rows_by_times(more, balls, colour, draws)
    return fraction(rows[times], heavy_draws(sum(balls), more, draws))


def likely_one_colour(more, balls, draws):
    # The row of no draws is one row, though it has either colour alone.
    if draws == 0:
        return (1, 1)
    heavy = heavy_draws(balls[0], more, draws) + heavy_draws(balls[1], more, draws)
    return fraction(heavy, heavy_draws(sum(balls), more, draws))


def mean_times(balls, colour, draws):
    """Each draw is as likely of the colour as the first, whatever more is."""
    return fraction(draws * balls[colour], sum(balls))


def mean_balls(more, balls, colour, draws):
    return fraction(balls[colour] * (sum(balls) + more * draws), sum(balls))

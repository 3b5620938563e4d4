"""How likely draws are alike: the sums behind the calls of the stage "Alike"."""

from albumwhole.arithmetic import choices, power
from albumwhole.ratio import difference, fraction


def set_products(weights):
    """For each size the products of the weights of all sets of that size, together."""
    products = [1]
    for weight in weights:
        without = products + [0]
        within = [0] + [product * weight for product in products]
        products = [one + other for one, other in zip(without, within)]
    return products


def product_of_size(weights, size):
    products = set_products(weights)
    return products[size] if size < len(products) else 0


def different_rows(weights, draws):
    """How heavy all rows of different kinds are, together: each set in each of its orders."""
    rows = product_of_size(weights, draws)
    for place in range(draws):
        rows = rows * (place + 1)
    return rows


def likely_different(weights, draws):
    return fraction(different_rows(weights, draws), power(sum(weights), draws))


def likely_even_different(weights, draws):
    return likely_different([1] * len(weights), draws)


def likely_alike(weights, draws):
    return difference((1, 1), likely_different(weights, draws))


def square_sum(weights):
    return sum([weight * weight for weight in weights])


def mean_pairs(weights, draws):
    pairs = draws * (draws - 1) // 2
    total = sum(weights)
    return fraction(pairs * square_sum(weights), total * total)


def least_half(weights):
    total = sum(weights)
    draws = 0
    while 2 * different_rows(weights, draws) > power(total, draws):
        draws += 1
    return draws


def likely_first(weights, draws):
    return difference(likely_different(weights, draws - 1), likely_different(weights, draws))


def mean_first(weights):
    """One draw for each number of draws that may still be all different, as likely as they are."""
    total = sum(weights)
    above = 0
    for draws in range(len(weights) + 1):
        above = above * total + different_rows(weights, draws)
    return fraction(above, power(total, len(weights)))


def twice_at_most_rows(weights, draws):
    """How heavy all rows are, together, in which no kind stands more than twice."""
    rows = [1] + [0] * draws
    for weight in weights:
        longer = [0] * (draws + 1)
        for length in range(draws + 1):
            for times in range(min(length, 2) + 1):
                placed = choices(length, times) * power(weight, times)
                longer[length] += rows[length - times] * placed
        rows = longer
    return rows[draws]


def likely_three(weights, draws):
    every_row = power(sum(weights), draws)
    return fraction(every_row - twice_at_most_rows(weights, draws), every_row)

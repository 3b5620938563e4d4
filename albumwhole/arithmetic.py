"""Whole-number sums that several files share."""


def power(base, exponent):
    product = 1
    for step in range(exponent):
        product = product * base
    return product


def choices(many, few):
    """In how many ways few of many are chosen: in none where few is more than many."""
    number = 1
    for step in range(few):
        number = number * (many - step) // (step + 1)
    return number


def first_greatest(numbers):
    """The place of the greatest, of like ones the first."""
    return numbers.index(max(numbers))

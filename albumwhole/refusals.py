"""The numbers that stand for refusals, and the bounds that several calls share."""

NOT_BEGUN = -11
NO_SUCH = -2
NO_KINDS = -6
NO_BALLS = -6
TOO_FEW_LEFT = -6
HAS_NONE = -12
OUT_OF_RANGE = -22
FULL = -28
DOES_NOT_SERVE = -33
ODD_WEIGHTS = -33
NEVER = -33
TOO_FEW_RED = -33

MOST_KINDS = 6
MOST_WEIGHT = 20


def is_weight(number):
    return 1 <= number <= MOST_WEIGHT

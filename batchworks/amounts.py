"""Exact amounts and shares: pairs of a numerator and a denominator, in lowest terms."""

MOST_IN_A_TERM = 1000000000000000000


def lowest(top, bottom):
    common, rest = top, bottom
    while rest > 0:
        common, rest = rest, common % rest
    return (top // common, bottom // common)


def plus(amount, other):
    return lowest(amount[0] * other[1] + other[0] * amount[1], amount[1] * other[1])


def times(amount, share):
    return lowest(amount[0] * share[0], amount[1] * share[1])


# What is left of the whole behind this share.
def rest_of(share):
    return (share[1] - share[0], share[1])


# As it is told: a number, or two with a sign between where it isn't whole.
def amount_text(amount):
    top, bottom = amount
    return f"{top}" if bottom == 1 else f"{top}/{bottom}"


def is_bounded(amount):
    return amount[0] <= MOST_IN_A_TERM and amount[1] <= MOST_IN_A_TERM

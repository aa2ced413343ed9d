"""Fractions in lowest terms, as tuples of what stands above and below."""

from math import gcd, lcm

from fewprobes.kinds import is_tuple_of, is_whole


def ratio(above, below):
    """The fraction of two whole numbers, the one below not 0."""
    common = gcd(above, below)
    if below < 0:
        common = 0 - common
    return (above // common, below // common)


def is_ratio(value):
    """Whether a value is a fraction in lowest terms."""
    if not is_tuple_of(value, 2) or not is_whole(value[0]) or not is_whole(value[1]):
        return False
    return value[1] > 0 and gcd(value[0], value[1]) == 1


def are_ratios(value, many):
    """Whether a value is a list of so many fractions in lowest terms."""
    return isinstance(value, list) and len(value) == many and all([is_ratio(item) for item in value])


def total_of(terms):
    """The sum of fractions, each times a whole number."""
    above = 0
    below = 1
    for (over, under), times in terms:
        if times == 0 or over == 0:
            continue
        above = above * under + over * times * below
        below = below * under
        common = gcd(above, below)
        above = above // common
        below = below // common
    return (above, below)


def lowest_whole(ratios):
    """The least whole numbers that stand to one another as fractions do."""
    below = 1
    for over, under in ratios:
        below = lcm(below, under)
    return [over * (below // under) for over, under in ratios]

"""Exact quotients: pairs (upper, lower), not below 0, in lowest terms."""


def common_divisor(one, other):
    """The greatest number that divides both; of 0 and a number, that number."""
    while other != 0:
        rest = one % other
        one = other
        other = rest
    return one


def side_of(quotient, level):
    """-1 if the quotient is less than the whole number, 0 if it's equal, 1 if it's more."""
    upper, lower = quotient
    reach = level * lower
    if upper == reach:
        return 0
    return -1 if upper < reach else 1


def between(start, level, part, whole):
    """The quotient that lies part of the whole way (part below whole) from start to level."""
    upper, lower = start
    shared = common_divisor(part, whole)
    done = part // shared
    steps = whole // shared
    left = steps - done
    next_upper = upper * left + lower * (level * done)
    next_lower = lower * steps
    # Quotients may grow very long, and Euclid's way is slow on them. But start is in lowest terms,
    # and done by steps is, too: so what both numbers share of a prime of lower divides left, and
    # of any other prime divides steps. All that they share divides the small number bound.
    bound = steps * left
    divisor = common_divisor(bound, next_upper % bound)
    if divisor > 1:
        divisor = common_divisor(divisor, next_lower % divisor)
    if divisor > 1:
        return (next_upper // divisor, next_lower // divisor)
    return (next_upper, next_lower)

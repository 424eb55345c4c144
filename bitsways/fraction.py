"""Fractions, told by two numbers with nothing in common.

The upper number may be below 0; the lower one is always 1 or more.
"""


# A rest by a number above 0 is never below 0, so neither is what this gives back.
def most_in_common(upper, lower):
    while lower != 0:
        rest = upper % lower
        upper = lower
        lower = rest
    return upper


def lowest_terms(upper, lower):
    shared = most_in_common(upper, lower)
    return [upper // shared, lower // shared]

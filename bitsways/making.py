"""The calls that make another answer.

Each takes the answer that there is and the numbers that the call is given,
and gives back the other answer as a list of its own: so a call that is
refused has changed nothing.
"""

from bitsways.refusals import NotRight, check_bit, check_word
from bitsways.words import bit_count, has_bit, meets_oddly, turned

MOST_TOLD = 32
LARGEST_WEIGHT = 9


def yes_where(says, rule):
    return [1 if rule(x) else 0 for x in range(len(says))]


def told(says, given):
    if len(given) > MOST_TOLD:
        raise NotRight()
    for x in given:
        check_word(says, x)
    return yes_where(says, lambda x: x in given)


def weight_of(x, weights):
    return sum([weight for i, weight in enumerate(weights) if has_bit(x, i)])


def least(says, given):
    threshold = given[0]
    weights = given[1:]
    if len(weights) != bit_count(says) or max(weights) > LARGEST_WEIGHT:
        raise NotRight()
    return yes_where(says, lambda x: weight_of(x, weights) >= threshold)


def odd(says, given):
    s = given[0]
    check_word(says, s)
    return yes_where(says, lambda x: meets_oddly(x, s))


def bit(says, given):
    i = given[0]
    check_bit(says, i)
    return yes_where(says, lambda x: has_bit(x, i))


def not_of(says, given):
    return yes_where(says, lambda x: says[x] == 0)


def turn(says, given):
    i = given[0]
    check_bit(says, i)
    return yes_where(says, lambda x: says[turned(x, i)] == 1)


def set_word(says, given):
    x = given[0]
    b = given[1]
    check_word(says, x)
    if b > 1:
        raise NotRight()
    other = list(says)
    other[x] = b
    return other


MAKING = {
    "told": told,
    "least": least,
    "odd": odd,
    "bit": bit,
    "not_of": not_of,
    "turn": turn,
    "set": set_word,
}

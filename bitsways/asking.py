"""The calls that ask of the answer.

Each takes the answer and the numbers that the call is given, and gives back
the numbers that are answered.
"""

from bitsways.fraction import lowest_terms
from bitsways.refusals import check_bit, check_word
from bitsways.words import turned


def sway_count(says, i):
    return len([x for x in range(len(says)) if says[x] != says[turned(x, i)]])


def ask(says, given):
    x = given[0]
    check_word(says, x)
    return [says[x]]


def mean(says, given):
    return [0] + lowest_terms(sum(says), len(says))


def sway(says, given):
    i = given[0]
    check_bit(says, i)
    return [0] + lowest_terms(sway_count(says, i), len(says))


ASKING = {
    "ask": ask,
    "mean": mean,
    "sway": sway,
}

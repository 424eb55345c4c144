"""Bits that sway, and the sides between a yes and a no one bit apart."""

from bitsways.words import bit_count, turned, with_bit


def sway_count(says, i):
    return len([x for x in range(len(says)) if says[x] != says[turned(x, i)]])


def sway_counts(says):
    return [sway_count(says, i) for i in range(bit_count(says))]


# Of a side's two words the one bit sways at both, so each side is counted twice.
def side_count(says):
    return sum(sway_counts(says)) // 2


def first_words(says):
    yeses = sum(says)
    return [1] * yeses + [0] * (len(says) - yeses)


def is_rising(says):
    for x in range(len(says)):
        for i in range(bit_count(says)):
            if says[x] > says[with_bit(x, i)]:
                return False
    return True

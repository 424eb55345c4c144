"""The parts of sets and the levels, not yet divided by how many words there are."""

from bitsways.words import bit_count, meets_oddly, size_of


def part_sum(says, s):
    total = 0
    for x, says_yes in enumerate(says):
        if meets_oddly(x, s) == (says_yes == 1):
            total = total + 1
        else:
            total = total - 1
    return total


def part_sums(says):
    return [part_sum(says, s) for s in range(len(says))]


# To be divided twice by how many words there are, as each part is taken times itself.
def level_sums(says):
    sums = [0] * (bit_count(says) + 1)
    for s, total in enumerate(part_sums(says)):
        k = size_of(s)
        sums[k] = sums[k] + total * total
    return sums

"""Bits, words and the answer to each word.

An answer is kept as a list that has, at the place of each word, 1 for yes
or 0 for no. So it has as many places as there are words, and its length
tells how many bits there are.
"""


def no_to_all(bits):
    return [0] * (1 << bits)


def bit_count(says):
    return len(says).bit_length() - 1


def has_bit(x, i):
    return x >> i & 1 == 1


def turned(x, i):
    return x ^ (1 << i)


def with_bit(x, i):
    return x | (1 << i)


def size_of(s):
    size = 0
    while s > 0:
        size = size + (s & 1)
        s = s >> 1
    return size


def meets_oddly(x, s):
    return size_of(x & s) % 2 == 1


def words_of_yes(says):
    return [x for x in range(len(says)) if says[x] == 1]

"""Bits, words and the answer to each word.

An answer is kept as a list that has, at the place of each word, 1 for yes
or 0 for no. So it has as many places as there are words, and its length
tells how many bits there are.
"""


def no_to_all(bits):
    return [0] * (1 << bits)


def bit_count(says):
    return len(says).bit_length() - 1


def has_bit(x, i):
    return x >> i & 1 == 1


def turned(x, i):
    return x ^ (1 << i)


def meets_oddly(x, s):
    both = x & s
    odd = False
    while both > 0:
        if both & 1 == 1:
            odd = not odd
        both = both >> 1
    return odd

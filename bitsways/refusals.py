"""Why a call is refused, and the looks at what is given."""

from bitsways.words import bit_count


class NoSuchBit(Exception):
    pass


class NotBegun(Exception):
    pass


class NotRight(Exception):
    pass


def check_bit(says, i):
    if i >= bit_count(says):
        raise NoSuchBit()


# A set of bits is told by the same numbers as a word, so it is looked at here, too.
def check_word(says, x):
    if x >= len(says):
        raise NotRight()

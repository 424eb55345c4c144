"""Spells calls as the interface asks for, and tells their replies apart."""

import itertools
from fractions import Fraction

from bitsways.answer import answers

NUMBERS = {
    "begin": 0, "told": 1, "least": 2, "odd": 3, "bit": 4, "not_of": 5,
    "turn": 6, "set": 7, "ask": 8, "mean": 9, "sway": 10, "all_sways": 11,
    "even": 12, "part": 13, "parts": 14, "levels": 15, "sides": 16,
    "fewest": 17, "rising": 18, "idle": 19, "most": 20, "state": 21,
}
LARGEST = 4294967295


# The calls that ask of the answer and are given nothing.
QUESTIONS = [
    ("mean",), ("all_sways",), ("even",), ("parts",), ("levels",), ("sides",), ("fewest",),
    ("rising",), ("idle",), ("most",), ("state",),
]


def spell(calls):
    """One list for calls such as ("least", 2, [1, 1, 1])."""
    numbers = []
    for name, *given in calls:
        numbers.append(NUMBERS[name])
        for part in given:
            if isinstance(part, list):
                numbers.append(len(part))
                numbers.extend(part)
            else:
                numbers.append(part)
    return numbers


def replies(*calls):
    """The numbers answered to each call, a list each."""
    left = answers(spell(calls))
    found = []
    while left:
        count = left[0]
        found.append(left[1:1 + count])
        left = left[1 + count:]
    return found


def last(*calls):
    """The numbers answered to the last call."""
    return replies(*calls)[-1]


def yeses(bits, *calls):
    """The words to which it says yes after a begin with so many bits and the calls."""
    asked = [("ask", x) for x in range(2 ** bits)]
    found = replies(("begin", bits), *calls, *asked)[-len(asked):]
    return [x for x, numbers in enumerate(found) if numbers == [1]]


def of(bits, words, *calls):
    """The numbers answered to the last call, where it says yes to the words alone."""
    return last(("begin", bits), ("told", words), *calls)


def all_answers(bits):
    """Each answer to the words of so many bits, as a list of its words."""
    words = range(2 ** bits)
    for count in range(len(words) + 1):
        for chosen in itertools.combinations(words, count):
            yield list(chosen)


def some_answers(bits):
    """The first words in every number, and as many others, spread over all there are."""
    top = 2 ** bits
    for count in range(top + 1):
        yield list(range(count))
        yield sorted((count + 11 * x * x) % top for x in range(count))
        yield [x for x in range(top) if (count * 2654435761 + 40503) ** 2 >> 16 + x & 1]


def many_answers():
    """All answers of up to three bits and some of more, each with its number of bits."""
    for bits in (1, 2, 3):
        for words in all_answers(bits):
            yield bits, words
    for bits in (4, 5):
        for words in some_answers(bits):
            yield bits, sorted(set(words))


def numbers_of(value):
    """A fraction's two numbers."""
    return [Fraction(value).numerator, Fraction(value).denominator]


def fractions_in(numbers):
    """The fractions that stand one behind another."""
    return [Fraction(*numbers[at:at + 2]) for at in range(0, len(numbers), 2)]


def part_of(bits, words, s):
    """The part of a set as the document's words say it, by products of signs."""
    total = 0
    for x in range(2 ** bits):
        sign = -1 if x in words else 1
        for i in range(bits):
            if x >> i & s >> i & 1:
                sign = -sign
        total += sign
    return Fraction(total, 2 ** bits)


def sway_of(bits, words, i):
    """The sway of a bit as the document's words say it, by a difference of sets."""
    swayed = {x ^ 2 ** i for x in words} ^ set(words)
    return Fraction(len(swayed), 2 ** bits)


def sides_of(bits, words):
    """How many sides there are, each of them looked at from its yes."""
    others = set(range(2 ** bits)) - set(words)
    return len([1 for x in set(words) for y in others if bin(x ^ y).count("1") == 1])

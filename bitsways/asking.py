"""The calls that ask of the answer.

Each takes the answer and the numbers that the call is given, and gives back
the numbers that are answered.
"""

from bitsways.fraction import lowest_terms
from bitsways.parts import level_sums, part_sum, part_sums
from bitsways.refusals import check_bit, check_word
from bitsways.sways import first_words, is_rising, side_count, sway_count, sway_counts
from bitsways.words import bit_count, words_of_yes


def ask(says, given):
    x = given[0]
    check_word(says, x)
    return [says[x]]


def mean(says, given):
    return [0] + lowest_terms(sum(says), len(says))


def sway(says, given):
    i = given[0]
    check_bit(says, i)
    return [0] + lowest_terms(sway_count(says, i), len(says))


def all_sways(says, given):
    return [0] + lowest_terms(sum(sway_counts(says)), len(says))


def even(says, given):
    word_count = len(says)
    yeses = sum(says)
    return [0] + lowest_terms(4 * yeses * (word_count - yeses), word_count * word_count)


def part(says, given):
    s = given[0]
    check_word(says, s)
    return [0] + lowest_terms(part_sum(says, s), len(says))


def parts(says, given):
    sums = part_sums(says)
    numbers = [len([total for total in sums if total != 0])]
    for s, total in enumerate(sums):
        if total != 0:
            numbers.append(s)
            numbers.extend(lowest_terms(total, len(says)))
    return numbers


def levels(says, given):
    word_count = len(says)
    sums = level_sums(says)
    numbers = [len(sums)]
    for total in sums:
        numbers.extend(lowest_terms(total, word_count * word_count))
    return numbers


def sides(says, given):
    return [side_count(says)]


def fewest(says, given):
    return [side_count(first_words(says))]


def rising(says, given):
    return [1 if is_rising(says) else 0]


def idle(says, given):
    never = [i for i, count in enumerate(sway_counts(says)) if count == 0]
    return [len(never)] + never


def most(says, given):
    counts = sway_counts(says)
    largest = max(counts)
    return [counts.index(largest)] + lowest_terms(largest, len(says))


def state(says, given):
    return [bit_count(says)] + words_of_yes(says)


ASKING = {
    "ask": ask,
    "mean": mean,
    "sway": sway,
    "all_sways": all_sways,
    "even": even,
    "part": part,
    "parts": parts,
    "levels": levels,
    "sides": sides,
    "fewest": fewest,
    "rising": rising,
    "idle": idle,
    "most": most,
    "state": state,
}

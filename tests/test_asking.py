"""Promise 2: ask, mean and sway."""

import unittest
from fractions import Fraction

from bitsways.fraction import lowest_terms
from tests.helper import LARGEST, last, replies


def told_sway(bits, words, i):
    """The sway of bit i as the document's words say it, by another way."""
    yes = set(words)
    swayed = {x ^ 2 ** i for x in yes} ^ yes
    return Fraction(len(swayed), 2 ** bits)


def numbers_of(fraction):
    return [0, fraction.numerator, fraction.denominator]


class AskTest(unittest.TestCase):
    def test_1_yes_0_no(self):
        self.assertEqual(
            replies(("begin", 2), ("told", [1, 2]), ("ask", 0), ("ask", 1), ("ask", 2), ("ask", 3)),
            [[0], [2], [0], [1], [1], [0]])

    def test_what_is_no_word_is_refused(self):
        for bits in (1, 2, 3, 4, 5):
            for x in (2 ** bits, 2 ** bits + 1, LARGEST):
                self.assertEqual(last(("begin", bits), ("ask", x)), [-22])


class MeanTest(unittest.TestCase):
    def test_every_number_of_yeses(self):
        for bits in (1, 2, 3, 4, 5):
            for count in range(2 ** bits + 1):
                part = Fraction(count, 2 ** bits)
                self.assertEqual(
                    last(("begin", bits), ("told", list(range(count))), ("mean",)),
                    numbers_of(part))

    def test_no_to_all(self):
        self.assertEqual(last(("begin", 5), ("mean",)), [0, 0, 1])

    def test_yes_to_all(self):
        self.assertEqual(last(("begin", 5), ("not_of",), ("mean",)), [0, 1, 1])

    def test_nothing_in_common(self):
        self.assertEqual(last(("begin", 3), ("told", [0, 1, 2, 3, 4, 5]), ("mean",)), [0, 3, 4])


class SwayTest(unittest.TestCase):
    def test_every_answer(self):
        for bits in (1, 2, 3):
            for told in range(2 ** 2 ** bits):
                words = [x for x in range(2 ** bits) if told >> x & 1]
                for i in range(bits):
                    self.assertEqual(
                        last(("begin", bits), ("told", words), ("sway", i)),
                        numbers_of(told_sway(bits, words, i)))

    def test_the_most_of_three(self):
        for i in range(3):
            self.assertEqual(
                last(("begin", 3), ("least", 2, [1, 1, 1]), ("sway", i)), [0, 1, 2])

    def test_an_odd_number_of_bits_set(self):
        for i in range(5):
            self.assertEqual(last(("begin", 5), ("odd", 31), ("sway", i)), [0, 1, 1])

    def test_a_bit_that_never_sways(self):
        self.assertEqual(
            replies(("begin", 2), ("bit", 1), ("sway", 0), ("sway", 1)),
            [[0], [2], [0, 0, 1], [0, 1, 1]])

    def test_no_to_all(self):
        for i in range(5):
            self.assertEqual(last(("begin", 5), ("sway", i)), [0, 0, 1])

    def test_one_bit(self):
        self.assertEqual(last(("begin", 1), ("bit", 0), ("sway", 0)), [0, 1, 1])

    def test_yes_to_one_word(self):
        for i in range(5):
            self.assertEqual(last(("begin", 5), ("told", [19]), ("sway", i)), [0, 1, 16])

    def test_no_such_bit(self):
        for bits in (1, 2, 3, 4, 5):
            for i in (bits, 32, LARGEST):
                self.assertEqual(last(("begin", bits), ("sway", i)), [-2])

    def test_asking_changes_nothing(self):
        self.assertEqual(
            replies(("begin", 2), ("told", [0, 3]), ("sway", 1), ("mean",), ("ask", 3), ("ask", 0),
                    ("sway", 1), ("mean",)),
            [[0], [2], [0, 1, 1], [0, 1, 2], [1], [1], [0, 1, 1], [0, 1, 2]])


class FractionTest(unittest.TestCase):
    def test_nothing_in_common_and_the_lower_one_1_or_more(self):
        for upper in range(-40, 41):
            for lower in range(1, 41):
                fraction = Fraction(upper, lower)
                self.assertEqual(
                    lowest_terms(upper, lower), [fraction.numerator, fraction.denominator])


if __name__ == "__main__":
    unittest.main()

"""Promise 2: ask, mean, even; promise 1: state; and how a fraction is told."""

import unittest
from fractions import Fraction

from bitsways.fraction import lowest_terms
from tests.helper import LARGEST, last, many_answers, numbers_of, of, replies, yeses


class AskTest(unittest.TestCase):
    def test_1_yes_0_no(self):
        self.assertEqual(
            replies(("begin", 2), ("told", [1, 2]), ("ask", 0), ("ask", 1), ("ask", 2), ("ask", 3)),
            [[0], [2], [0], [1], [1], [0]])

    def test_what_is_no_word_is_refused(self):
        for bits in (1, 2, 3, 4, 5):
            for x in (2 ** bits, 2 ** bits + 1, LARGEST):
                self.assertEqual(last(("begin", bits), ("ask", x)), [-22])


class MeanTest(unittest.TestCase):
    def test_every_number_of_yeses(self):
        for bits in (1, 2, 3, 4, 5):
            for count in range(2 ** bits + 1):
                part = Fraction(count, 2 ** bits)
                self.assertEqual(
                    last(("begin", bits), ("told", list(range(count))), ("mean",)),
                    [0] + numbers_of(part))

    def test_no_to_all(self):
        self.assertEqual(last(("begin", 5), ("mean",)), [0, 0, 1])

    def test_yes_to_all(self):
        self.assertEqual(last(("begin", 5), ("not_of",), ("mean",)), [0, 1, 1])

    def test_nothing_in_common(self):
        self.assertEqual(last(("begin", 3), ("told", [0, 1, 2, 3, 4, 5]), ("mean",)), [0, 3, 4])


class EvenTest(unittest.TestCase):
    def test_every_number_of_yeses(self):
        for bits in (1, 2, 3, 4, 5):
            for count in range(2 ** bits + 1):
                part = Fraction(count, 2 ** bits)
                self.assertEqual(
                    of(bits, list(range(count)), ("even",)),
                    [0] + numbers_of(4 * part * (1 - part)))

    def test_none_and_all_are_not_even_at_all(self):
        for bits in (1, 5):
            self.assertEqual(last(("begin", bits), ("even",)), [0, 0, 1])
            self.assertEqual(last(("begin", bits), ("not_of",), ("even",)), [0, 0, 1])

    def test_half_is_as_even_as_can_be(self):
        for bits in (1, 2, 3, 4, 5):
            self.assertEqual(last(("begin", bits), ("bit", 0), ("even",)), [0, 1, 1])
            self.assertEqual(last(("begin", bits), ("odd", 2 ** bits - 1), ("even",)), [0, 1, 1])

    def test_yes_to_one_word(self):
        self.assertEqual(of(2, [3], ("even",)), [0, 3, 4])
        self.assertEqual(of(5, [19], ("even",)), [0, 31, 256])


class StateTest(unittest.TestCase):
    def test_how_many_bits_then_the_words_rising(self):
        for bits, words in many_answers():
            self.assertEqual(of(bits, words, ("state",)), [bits] + words)

    def test_it_agrees_with_ask(self):
        for words in ([], [0], [31], [4, 9, 30], list(range(32))):
            self.assertEqual(
                of(5, words, ("turn", 2), ("state",)), [5] + yeses(5, ("told", words), ("turn", 2)))

    def test_words_told_twice_and_falling(self):
        self.assertEqual(of(3, [6, 1, 6, 5, 1], ("state",)), [3, 1, 5, 6])

    def test_none(self):
        for bits in (1, 2, 3, 4, 5):
            self.assertEqual(last(("begin", bits), ("state",)), [bits])

    def test_all(self):
        for bits in (1, 2, 3, 4, 5):
            self.assertEqual(
                last(("begin", bits), ("not_of",), ("state",)), [bits] + list(range(2 ** bits)))

    def test_behind_each_call_that_makes_another_answer(self):
        self.assertEqual(
            replies(("begin", 2), ("bit", 1), ("state",), ("set", 0, 1), ("state",), ("turn", 0),
                    ("state",), ("not_of",), ("state",), ("odd", 3), ("state",),
                    ("least", 2, [1, 1]), ("state",), ("begin", 1), ("state",))[2::2],
            [[2, 2, 3], [2, 0, 2, 3], [2, 1, 2, 3], [2, 0], [2, 1, 2], [2, 3], [1]])


class FractionTest(unittest.TestCase):
    def test_nothing_in_common_and_the_lower_one_1_or_more(self):
        for upper in range(-40, 41):
            for lower in range(1, 41):
                fraction = Fraction(upper, lower)
                self.assertEqual(
                    lowest_terms(upper, lower), [fraction.numerator, fraction.denominator])


if __name__ == "__main__":
    unittest.main()

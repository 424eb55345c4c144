"""Promise 2: sides, fewest and rising."""

import unittest

from tests.helper import last, many_answers, of, sides_of


class SidesTest(unittest.TestCase):
    def test_many_answers(self):
        for bits, words in many_answers():
            self.assertEqual(of(bits, words, ("sides",)), [sides_of(bits, words)])

    def test_no_to_all_and_yes_to_all(self):
        for bits in (1, 2, 3, 4, 5):
            self.assertEqual(last(("begin", bits), ("sides",)), [0])
            self.assertEqual(last(("begin", bits), ("not_of",), ("sides",)), [0])

    def test_yes_to_one_word(self):
        for bits in (1, 2, 3, 4, 5):
            for x in (0, 1, 2 ** bits - 1):
                self.assertEqual(of(bits, [x], ("sides",)), [bits])

    def test_half_of_all_words(self):
        for bits in (1, 2, 3, 4, 5):
            half = 2 ** bits // 2
            self.assertEqual(last(("begin", bits), ("bit", bits - 1), ("sides",)), [half])
            self.assertEqual(
                last(("begin", bits), ("odd", 2 ** bits - 1), ("sides",)), [bits * half])

    def test_the_most_of_three(self):
        self.assertEqual(last(("begin", 3), ("least", 2, [1, 1, 1]), ("sides",)), [6])


class FewestTest(unittest.TestCase):
    def test_many_answers(self):
        for bits, words in many_answers():
            first = list(range(len(words)))
            self.assertEqual(of(bits, words, ("fewest",)), [sides_of(bits, first)])

    def test_none_one_half_and_all(self):
        for bits in (1, 2, 3, 4, 5):
            top = 2 ** bits
            self.assertEqual(of(bits, [], ("fewest",)), [0])
            self.assertEqual(of(bits, [top - 1], ("fewest",)), [bits])
            self.assertEqual(
                last(("begin", bits), ("odd", top - 1), ("fewest",)), [top // 2])
            self.assertEqual(of(bits, list(range(top)), ("fewest",)), [0])

    def test_of_three_bits(self):
        found = [of(3, list(range(8 - count, 8)), ("fewest",)) for count in range(9)]
        self.assertEqual(found, [[0], [3], [4], [5], [4], [5], [4], [3], [0]])


class RisingTest(unittest.TestCase):
    def test_many_answers(self):
        for bits, words in many_answers():
            falls = [1 for x in words for y in range(2 ** bits) if x & y == x and y not in words]
            self.assertEqual(of(bits, words, ("rising",)), [0 if falls else 1])

    def test_no_to_all_and_yes_to_all(self):
        for bits in (1, 2, 3, 4, 5):
            self.assertEqual(last(("begin", bits), ("rising",)), [1])
            self.assertEqual(last(("begin", bits), ("not_of",), ("rising",)), [1])

    def test_what_is_least_rises(self):
        for q in (0, 1, 7, 20, 27, 28):
            self.assertEqual(last(("begin", 5), ("least", q, [9, 0, 3, 7, 8]), ("rising",)), [1])

    def test_the_most_of_three_and_a_bit(self):
        self.assertEqual(last(("begin", 3), ("least", 2, [1, 1, 1]), ("rising",)), [1])
        for i in range(5):
            self.assertEqual(last(("begin", 5), ("bit", i), ("rising",)), [1])

    def test_what_falls_at_one_bit(self):
        for i in range(5):
            self.assertEqual(last(("begin", 5), ("bit", i), ("not_of",), ("rising",)), [0])
        self.assertEqual(last(("begin", 5), ("not_of",), ("set", 31, 0), ("rising",)), [0])
        self.assertEqual(last(("begin", 5), ("set", 0, 1), ("rising",)), [0])

    def test_an_odd_number_of_bits_set(self):
        self.assertEqual(last(("begin", 1), ("odd", 1), ("rising",)), [1])
        for bits in (2, 3, 4, 5):
            self.assertEqual(last(("begin", bits), ("odd", 2 ** bits - 1), ("rising",)), [0])

    def test_yes_to_one_word(self):
        self.assertEqual(of(5, [31], ("rising",)), [1])
        self.assertEqual(of(5, [30], ("rising",)), [0])


if __name__ == "__main__":
    unittest.main()

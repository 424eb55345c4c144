"""Promise 2: sway, all_sways, idle and most."""

import unittest

from tests.helper import LARGEST, last, many_answers, numbers_of, of, replies, sway_of


def sways_of(bits, words):
    return [sway_of(bits, words, i) for i in range(bits)]


class SwayTest(unittest.TestCase):
    def test_many_answers(self):
        for bits, words in many_answers():
            for i, sway in enumerate(sways_of(bits, words)):
                self.assertEqual(of(bits, words, ("sway", i)), [0] + numbers_of(sway))

    def test_the_most_of_three(self):
        for i in range(3):
            self.assertEqual(
                last(("begin", 3), ("least", 2, [1, 1, 1]), ("sway", i)), [0, 1, 2])

    def test_an_odd_number_of_bits_set(self):
        for i in range(5):
            self.assertEqual(last(("begin", 5), ("odd", 31), ("sway", i)), [0, 1, 1])

    def test_a_bit_that_never_sways(self):
        self.assertEqual(
            replies(("begin", 2), ("bit", 1), ("sway", 0), ("sway", 1)),
            [[0], [2], [0, 0, 1], [0, 1, 1]])

    def test_no_to_all(self):
        for i in range(5):
            self.assertEqual(last(("begin", 5), ("sway", i)), [0, 0, 1])

    def test_one_bit(self):
        self.assertEqual(last(("begin", 1), ("bit", 0), ("sway", 0)), [0, 1, 1])

    def test_yes_to_one_word(self):
        for i in range(5):
            self.assertEqual(of(5, [19], ("sway", i)), [0, 1, 16])

    def test_no_such_bit(self):
        for bits in (1, 2, 3, 4, 5):
            for i in (bits, 32, LARGEST):
                self.assertEqual(last(("begin", bits), ("sway", i)), [-2])


class AllSwaysTest(unittest.TestCase):
    def test_many_answers(self):
        for bits, words in many_answers():
            self.assertEqual(
                of(bits, words, ("all_sways",)), [0] + numbers_of(sum(sways_of(bits, words))))

    def test_the_most_of_three(self):
        self.assertEqual(last(("begin", 3), ("least", 2, [1, 1, 1]), ("all_sways",)), [0, 3, 2])

    def test_an_odd_number_of_bits_set(self):
        for bits in (1, 2, 3, 4, 5):
            self.assertEqual(
                last(("begin", bits), ("odd", 2 ** bits - 1), ("all_sways",)), [0, bits, 1])

    def test_no_to_all_and_yes_to_all(self):
        for bits in (1, 2, 3, 4, 5):
            self.assertEqual(last(("begin", bits), ("all_sways",)), [0, 0, 1])
            self.assertEqual(last(("begin", bits), ("not_of",), ("all_sways",)), [0, 0, 1])

    def test_yes_to_one_word(self):
        self.assertEqual(of(1, [1], ("all_sways",)), [0, 1, 1])
        self.assertEqual(of(5, [19], ("all_sways",)), [0, 5, 16])


class IdleTest(unittest.TestCase):
    def test_many_answers(self):
        for bits, words in many_answers():
            never = [i for i, sway in enumerate(sways_of(bits, words)) if sway == 0]
            self.assertEqual(of(bits, words, ("idle",)), [len(never)] + never)

    def test_none(self):
        for bits in (1, 2, 3, 4, 5):
            self.assertEqual(of(bits, [0], ("idle",)), [0])
            self.assertEqual(last(("begin", bits), ("odd", 2 ** bits - 1), ("idle",)), [0])

    def test_all(self):
        for bits in (1, 2, 3, 4, 5):
            every = [bits] + list(range(bits))
            self.assertEqual(last(("begin", bits), ("idle",)), every)
            self.assertEqual(last(("begin", bits), ("not_of",), ("idle",)), every)

    def test_all_but_some(self):
        self.assertEqual(last(("begin", 5), ("bit", 3), ("idle",)), [4, 0, 1, 2, 4])
        self.assertEqual(last(("begin", 5), ("odd", 18), ("idle",)), [3, 0, 2, 3])
        self.assertEqual(last(("begin", 3), ("least", 2, [1, 0, 1]), ("idle",)), [1, 1])


class MostTest(unittest.TestCase):
    def test_many_answers(self):
        for bits, words in many_answers():
            sways = sways_of(bits, words)
            first = min(range(bits), key=lambda i: (-sways[i], i))
            self.assertEqual(of(bits, words, ("most",)), [first] + numbers_of(sways[first]))

    def test_of_like_ones_the_first(self):
        self.assertEqual(last(("begin", 3), ("least", 2, [1, 1, 1]), ("most",)), [0, 1, 2])
        self.assertEqual(last(("begin", 5), ("odd", 31), ("most",)), [0, 1, 1])
        self.assertEqual(last(("begin", 5), ("odd", 20), ("most",)), [2, 1, 1])
        self.assertEqual(last(("begin", 3), ("least", 4, [1, 3, 3]), ("most",)), [0, 1, 2])
        self.assertEqual(last(("begin", 3), ("least", 6, [1, 3, 3]), ("most",)), [1, 1, 2])

    def test_one_alone(self):
        for i in range(5):
            self.assertEqual(last(("begin", 5), ("bit", i), ("most",)), [i, 1, 1])
        self.assertEqual(last(("begin", 3), ("least", 3, [1, 1, 2]), ("most",)), [2, 3, 4])

    def test_where_no_bit_sways(self):
        for bits in (1, 2, 3, 4, 5):
            self.assertEqual(last(("begin", bits), ("most",)), [0, 0, 1])
            self.assertEqual(last(("begin", bits), ("not_of",), ("most",)), [0, 0, 1])


if __name__ == "__main__":
    unittest.main()

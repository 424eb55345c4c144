"""Promise 2: part, parts and levels."""

import unittest

from tests.helper import LARGEST, last, many_answers, numbers_of, of, part_of


class PartTest(unittest.TestCase):
    def test_many_answers(self):
        for bits, words in many_answers():
            for s in range(2 ** bits):
                self.assertEqual(
                    of(bits, words, ("part", s)), [0] + numbers_of(part_of(bits, words, s)))

    def test_the_most_of_three(self):
        found = [last(("begin", 3), ("least", 2, [1, 1, 1]), ("part", s)) for s in range(8)]
        self.assertEqual(
            found,
            [[0, 0, 1], [0, 1, 2], [0, 1, 2], [0, 0, 1], [0, 1, 2], [0, 0, 1], [0, 0, 1],
             [0, -1, 2]])

    def test_no_to_all(self):
        for bits in (1, 5):
            self.assertEqual(last(("begin", bits), ("part", 0)), [0, 1, 1])
            self.assertEqual(last(("begin", bits), ("part", 1)), [0, 0, 1])

    def test_yes_to_all(self):
        for bits in (1, 5):
            self.assertEqual(last(("begin", bits), ("not_of",), ("part", 0)), [0, -1, 1])
            self.assertEqual(last(("begin", bits), ("not_of",), ("part", 1)), [0, 0, 1])

    def test_below_0(self):
        self.assertEqual(of(2, [3], ("part", 3)), [0, -1, 2])
        self.assertEqual(of(5, [31], ("part", 3)), [0, -1, 16])
        self.assertEqual(of(3, [0, 1, 2, 3, 4, 5, 6], ("part", 0)), [0, -3, 4])

    def test_the_largest_set(self):
        for bits in (1, 2, 3, 4, 5):
            largest = 2 ** bits - 1
            self.assertEqual(last(("begin", bits), ("odd", largest), ("part", largest)), [0, 1, 1])
            self.assertEqual(
                last(("begin", bits), ("odd", largest), ("not_of",), ("part", largest)),
                [0, -1, 1])

    def test_what_is_no_set_is_refused(self):
        for bits in (1, 2, 3, 4, 5):
            for s in (2 ** bits, 2 ** bits + 1, LARGEST):
                self.assertEqual(last(("begin", bits), ("part", s)), [-22])


class PartsTest(unittest.TestCase):
    def test_many_answers(self):
        for bits, words in many_answers():
            parts = [(s, part_of(bits, words, s)) for s in range(2 ** bits)]
            told = [[s] + numbers_of(part) for s, part in parts if part != 0]
            self.assertEqual(of(bits, words, ("parts",)), [len(told)] + sum(told, []))

    def test_the_most_of_three(self):
        self.assertEqual(
            last(("begin", 3), ("least", 2, [1, 1, 1]), ("parts",)),
            [4, 1, 1, 2, 2, 1, 2, 4, 1, 2, 7, -1, 2])

    def test_one_set_alone(self):
        for s in range(32):
            self.assertEqual(last(("begin", 5), ("odd", s), ("parts",)), [1, s, 1, 1])
            self.assertEqual(last(("begin", 5), ("odd", s), ("not_of",), ("parts",)), [1, s, -1, 1])

    def test_each_set_has_one(self):
        self.assertEqual(of(2, [3], ("parts",)), [4, 0, 1, 2, 1, 1, 2, 2, 1, 2, 3, -1, 2])
        found = of(5, [0], ("parts",))
        self.assertEqual(found[:4], [32, 0, 15, 16])
        self.assertEqual(found[4:], sum([[s, -1, 16] for s in range(1, 32)], []))

    def test_one_bit(self):
        self.assertEqual(of(1, [], ("parts",)), [1, 0, 1, 1])
        self.assertEqual(of(1, [0], ("parts",)), [1, 1, -1, 1])
        self.assertEqual(of(1, [1], ("parts",)), [1, 1, 1, 1])
        self.assertEqual(of(1, [0, 1], ("parts",)), [1, 0, -1, 1])


class LevelsTest(unittest.TestCase):
    def test_many_answers(self):
        for bits, words in many_answers():
            sums = [0] * (bits + 1)
            for s in range(2 ** bits):
                sums[bin(s).count("1")] += part_of(bits, words, s) ** 2
            self.assertEqual(
                of(bits, words, ("levels",)),
                [bits + 1] + sum([numbers_of(level) for level in sums], []))

    def test_the_most_of_three(self):
        self.assertEqual(
            last(("begin", 3), ("least", 2, [1, 1, 1]), ("levels",)), [4, 0, 1, 3, 4, 0, 1, 1, 4])

    def test_one_level_is_1_and_the_others_are_0(self):
        for bits in (1, 2, 3, 4, 5):
            for k in range(bits + 1):
                told = [bits + 1] + [0, 1] * k + [1, 1] + [0, 1] * (bits - k)
                self.assertEqual(last(("begin", bits), ("odd", 2 ** k - 1), ("levels",)), told)
                self.assertEqual(
                    last(("begin", bits), ("odd", 2 ** k - 1), ("not_of",), ("levels",)), told)

    def test_yes_to_one_word(self):
        self.assertEqual(of(2, [3], ("levels",)), [3, 1, 4, 1, 2, 1, 4])
        self.assertEqual(
            of(5, [19], ("levels",)), [6, 225, 256, 5, 256, 5, 128, 5, 128, 5, 256, 1, 256])


if __name__ == "__main__":
    unittest.main()

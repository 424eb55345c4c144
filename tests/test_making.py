"""Promise 1: the calls that make another answer."""

import unittest

from tests.helper import LARGEST, all_answers, last, replies, yeses


class BeginTest(unittest.TestCase):
    def test_one_to_five_bits_answer_0(self):
        for bits in (1, 2, 3, 4, 5):
            self.assertEqual(replies(("begin", bits)), [[0]])

    def test_other_numbers_of_bits_are_refused(self):
        for bits in (0, 6, 7, 32, LARGEST):
            self.assertEqual(replies(("begin", bits)), [[-22]])

    def test_there_are_so_many_words(self):
        for bits in (1, 2, 3, 4, 5):
            top = 2 ** bits
            self.assertEqual(
                replies(("begin", bits), ("ask", top - 1), ("ask", top)),
                [[0], [0], [-22]])

    def test_there_are_so_many_bits(self):
        for bits in (1, 2, 3, 4, 5):
            self.assertEqual(
                replies(("begin", bits), ("sway", bits - 1), ("sway", bits)),
                [[0], [0, 0, 1], [-2]])

    def test_the_answer_is_no_to_all_words(self):
        for bits in (1, 2, 3, 4, 5):
            self.assertEqual(yeses(bits), [])

    def test_a_begin_again_is_no_to_all_words(self):
        again = [("not_of",), ("begin", 2)]
        self.assertEqual(yeses(2, *again), [])
        self.assertEqual(last(("begin", 4), *again, ("ask", 4)), [-22])
        self.assertEqual(last(("begin", 1), *again, ("ask", 3)), [0])


class ToldTest(unittest.TestCase):
    def test_every_answer_can_be_told(self):
        for bits in (1, 2, 3):
            for words in all_answers(bits):
                self.assertEqual(yeses(bits, ("told", words)), words)
                self.assertEqual(last(("begin", bits), ("told", words)), [len(words)])

    def test_none(self):
        self.assertEqual(last(("begin", 3), ("not_of",), ("told", [])), [0])
        self.assertEqual(yeses(3, ("not_of",), ("told", [])), [])

    def test_to_those_alone(self):
        self.assertEqual(yeses(2, ("told", [0, 1]), ("told", [3])), [3])

    def test_a_word_told_twice_counts_once(self):
        self.assertEqual(last(("begin", 3), ("told", [6, 1, 6])), [2])
        self.assertEqual(yeses(3, ("told", [6, 1, 6])), [1, 6])

    def test_32_numbers(self):
        self.assertEqual(last(("begin", 5), ("told", list(range(32)))), [32])
        self.assertEqual(last(("begin", 1), ("told", [1] * 32)), [1])

    def test_33_numbers_are_refused(self):
        for count in (33, 255):
            self.assertEqual(last(("begin", 5), ("told", [0] * count)), [-22])

    def test_what_is_no_word_is_refused(self):
        for bits in (1, 2, 3, 4, 5):
            self.assertEqual(last(("begin", bits), ("told", [2 ** bits])), [-22])
            self.assertEqual(last(("begin", bits), ("told", [0, LARGEST])), [-22])
            self.assertEqual(last(("begin", bits), ("told", [2 ** bits, 0])), [-22])


class LeastTest(unittest.TestCase):
    def test_the_most_of_three(self):
        self.assertEqual(last(("begin", 3), ("least", 2, [1, 1, 1])), [4])
        self.assertEqual(yeses(3, ("least", 2, [1, 1, 1])), [3, 5, 6, 7])

    def test_each_bit_has_its_own_number(self):
        self.assertEqual(yeses(3, ("least", 3, [1, 2, 4])), [3, 4, 5, 6, 7])
        self.assertEqual(yeses(3, ("least", 5, [4, 2, 1])), [3, 5, 7])

    def test_as_many_as_q_is_yes(self):
        self.assertEqual(yeses(2, ("least", 9, [9, 0])), [1, 3])
        self.assertEqual(yeses(2, ("least", 10, [9, 0])), [])
        self.assertEqual(yeses(5, ("least", 45, [9, 9, 9, 9, 9])), [31])
        self.assertEqual(yeses(5, ("least", 46, [9, 9, 9, 9, 9])), [])

    def test_q_0_is_yes_to_all(self):
        self.assertEqual(last(("begin", 3), ("least", 0, [0, 0, 0])), [8])
        self.assertEqual(last(("begin", 5), ("least", 0, [9, 0, 9, 0, 9])), [32])

    def test_a_very_large_q_is_no_to_all(self):
        self.assertEqual(last(("begin", 3), ("not_of",), ("least", LARGEST, [9, 9, 9])), [0])

    def test_numbers_of_0_and_9(self):
        self.assertEqual(last(("begin", 2), ("least", 1, [0, 0])), [0])
        self.assertEqual(last(("begin", 2), ("least", 1, [9, 9])), [3])

    def test_a_number_of_10_is_refused(self):
        for row in ([10, 0, 0], [0, 10, 0], [0, 0, 10], [0, 0, LARGEST]):
            self.assertEqual(last(("begin", 3), ("least", 1, row)), [-22])

    def test_too_few_and_too_many_are_refused(self):
        for bits in (1, 2, 3, 4, 5):
            for count in (0, bits - 1, bits + 1, 255):
                self.assertEqual(last(("begin", bits), ("least", 1, [1] * count)), [-22])
            self.assertEqual(last(("begin", bits), ("least", 1, [1] * bits)), [2 ** bits - 1])


class OddTest(unittest.TestCase):
    def test_every_set(self):
        for bits in (1, 2, 3, 4, 5):
            for s in range(2 ** bits):
                odd = [x for x in range(2 ** bits) if bin(x & s).count("1") % 2 == 1]
                self.assertEqual(yeses(bits, ("odd", s)), odd)
                self.assertEqual(last(("begin", bits), ("odd", s)), [len(odd)])

    def test_an_odd_number_of_all_bits(self):
        self.assertEqual(yeses(3, ("odd", 7)), [1, 2, 4, 7])

    def test_no_bits_is_no_to_all(self):
        self.assertEqual(last(("begin", 3), ("not_of",), ("odd", 0)), [0])

    def test_what_is_no_set_is_refused(self):
        for bits in (1, 2, 3, 4, 5):
            self.assertEqual(last(("begin", bits), ("odd", 2 ** bits)), [-22])
            self.assertEqual(last(("begin", bits), ("odd", LARGEST)), [-22])


class BitTest(unittest.TestCase):
    def test_the_words_in_which_it_is_set(self):
        self.assertEqual(yeses(3, ("bit", 0)), [1, 3, 5, 7])
        self.assertEqual(yeses(3, ("bit", 1)), [2, 3, 6, 7])
        self.assertEqual(yeses(3, ("bit", 2)), [4, 5, 6, 7])

    def test_half_of_all_words(self):
        for bits in (1, 2, 3, 4, 5):
            for i in range(bits):
                self.assertEqual(last(("begin", bits), ("bit", i)), [2 ** bits // 2])

    def test_no_such_bit(self):
        for bits in (1, 2, 3, 4, 5):
            for i in (bits, 32, LARGEST):
                self.assertEqual(last(("begin", bits), ("bit", i)), [-2])


class NotTest(unittest.TestCase):
    def test_the_others_alone(self):
        for words in all_answers(2):
            others = [x for x in range(4) if x not in words]
            self.assertEqual(yeses(2, ("told", words), ("not_of",)), others)
            self.assertEqual(last(("begin", 2), ("told", words), ("not_of",)), [len(others)])

    def test_of_no_to_all(self):
        self.assertEqual(last(("begin", 5), ("not_of",)), [32])


class TurnTest(unittest.TestCase):
    def test_yes_goes_to_the_words_with_the_bit_turned(self):
        for words in all_answers(3):
            for i in range(3):
                turned = sorted(x ^ 2 ** i for x in words)
                self.assertEqual(yeses(3, ("told", words), ("turn", i)), turned)

    def test_as_many_yeses(self):
        self.assertEqual(last(("begin", 3), ("told", [0, 1, 6]), ("turn", 2)), [3])

    def test_one_bit(self):
        self.assertEqual(yeses(1, ("bit", 0), ("turn", 0)), [0])

    def test_no_such_bit(self):
        for bits in (1, 2, 3, 4, 5):
            for i in (bits, 32, LARGEST):
                self.assertEqual(last(("begin", bits), ("turn", i)), [-2])


class SetTest(unittest.TestCase):
    def test_yes_to_one_word(self):
        for x in range(8):
            self.assertEqual(yeses(3, ("set", x, 1)), [x])

    def test_no_to_one_word(self):
        for x in range(8):
            self.assertEqual(yeses(3, ("not_of",), ("set", x, 0)), [y for y in range(8) if y != x])

    def test_it_answers_how_many_yeses(self):
        self.assertEqual(
            replies(("begin", 2), ("set", 3, 1), ("set", 0, 1), ("set", 3, 0)),
            [[0], [1], [2], [1]])

    def test_what_it_says_already(self):
        self.assertEqual(
            replies(("begin", 2), ("set", 1, 0), ("set", 1, 1), ("set", 1, 1)),
            [[0], [0], [1], [1]])

    def test_b_of_2_is_refused(self):
        for b in (2, 3, LARGEST):
            self.assertEqual(last(("begin", 2), ("set", 1, b)), [-22])

    def test_what_is_no_word_is_refused(self):
        for bits in (1, 2, 3, 4, 5):
            for x in (2 ** bits, LARGEST):
                for b in (0, 1, 2, LARGEST):
                    self.assertEqual(last(("begin", bits), ("set", x, b)), [-22])


if __name__ == "__main__":
    unittest.main()

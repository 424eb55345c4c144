"""Promise 3: what holds, of many answers, told by what the calls answer of each."""

import unittest

from tests.helper import QUESTIONS, fractions_in, many_answers, of, replies


def told_of(bits, words):
    """What the questions answer, by their names."""
    found = replies(("begin", bits), ("told", words), *QUESTIONS)[2:]
    return {call[0]: numbers for call, numbers in zip(QUESTIONS, found)}


def fraction_behind(numbers):
    return fractions_in(numbers[1:])[0]


def parts_in(numbers):
    """Each set that has a part, and the part."""
    rows = [numbers[at:at + 3] for at in range(1, len(numbers), 3)]
    return {row[0]: fractions_in(row[1:])[0] for row in rows}


def size(s):
    return bin(s).count("1")


def sides_by_yeses(bits):
    """The fewest sides of all answers, by how many yeses they have."""
    top = 2 ** bits
    unset = [sum(1 << x for x in range(top) if not x >> i & 1) for i in range(bits)]
    found = {}
    for told in range(2 ** top):
        sides = sum(size((told ^ told >> 2 ** i) & unset[i]) for i in range(bits))
        found[size(told)] = min(sides, found.get(size(told), sides))
    return found


class HoldsTest(unittest.TestCase):
    def test_the_first_words_have_the_fewest_sides(self):
        for bits in (1, 2, 3, 4):
            for yeses, sides in sides_by_yeses(bits).items():
                last_words = list(range(2 ** bits - yeses, 2 ** bits))
                self.assertEqual(of(bits, last_words, ("fewest",)), [sides])

    def test_no_answer_has_fewer_sides_than_the_fewest(self):
        for bits, words in many_answers():
            told = told_of(bits, words)
            self.assertGreaterEqual(told["sides"], told["fewest"])

    def test_all_parts_each_times_itself_are_1_together(self):
        for bits, words in many_answers():
            told = told_of(bits, words)
            self.assertEqual(sum(part ** 2 for part in parts_in(told["parts"]).values()), 1)
            self.assertEqual(sum(fractions_in(told["levels"][1:])), 1)

    def test_the_parts_tell_the_answer(self):
        for bits, words in many_answers():
            parts = parts_in(told_of(bits, words)["parts"])
            for x in range(2 ** bits):
                sign = sum((-1) ** size(x & s) * part for s, part in parts.items())
                self.assertEqual(sign, -1 if x in words else 1)

    def test_all_sways_are_the_parts_as_often_as_their_sets_have_bits(self):
        for bits, words in many_answers():
            told = told_of(bits, words)
            together = sum(size(s) * part ** 2 for s, part in parts_in(told["parts"]).items())
            self.assertEqual(fraction_behind(told["all_sways"]), together)

    def test_all_sways_are_no_less_than_how_even_it_is(self):
        for bits, words in many_answers():
            told = told_of(bits, words)
            self.assertGreaterEqual(
                fraction_behind(told["all_sways"]), fraction_behind(told["even"]))

    def test_how_even_it_is_is_all_levels_but_the_first(self):
        for bits, words in many_answers():
            told = told_of(bits, words)
            self.assertEqual(
                fraction_behind(told["even"]), 1 - fraction_behind(told["levels"]))

    def test_a_bit_of_a_rising_answer_sways_as_much_as_its_own_part(self):
        rising = 0
        for bits, words in many_answers():
            if told_of(bits, words)["rising"] == [1]:
                rising += 1
                for i in range(bits):
                    self.assertEqual(
                        of(bits, words, ("sway", i)), of(bits, words, ("part", 2 ** i)))
        self.assertGreater(rising, 20)


if __name__ == "__main__":
    unittest.main()

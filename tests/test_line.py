"""The calls on one object: before a begin, what is refused, and how lists are handed over."""

import unittest

from bitsways.answer import answers
from tests.helper import (
    LARGEST, NUMBERS, QUESTIONS, last, many_answers, replies, spell, yeses)

# Each call in a form that is right behind a begin with 5 bits.
OTHERS = [
    ("told", [0]), ("least", 1, [1, 1, 1, 1, 1]), ("odd", 1), ("bit", 0), ("not_of",),
    ("turn", 0), ("set", 0, 1), ("ask", 0), ("sway", 0), ("part", 0), *QUESTIONS,
]

# Each refusal that is due behind a begin with 2 bits.
REFUSED = [
    (("begin", 0), -22), (("begin", 6), -22), (("begin", LARGEST), -22),
    (("told", [4]), -22), (("told", [0, 1, LARGEST]), -22), (("told", [0] * 33), -22),
    (("least", 1, [1]), -22), (("least", 1, [1, 1, 1]), -22), (("least", 1, [1, 10]), -22),
    (("least", 0, []), -22), (("odd", 4), -22), (("odd", LARGEST), -22),
    (("bit", 2), -2), (("bit", LARGEST), -2), (("turn", 2), -2), (("turn", LARGEST), -2),
    (("set", 4, 1), -22), (("set", 0, 2), -22), (("set", 3, LARGEST), -22),
    (("set", LARGEST, LARGEST), -22), (("ask", 4), -22), (("ask", LARGEST), -22),
    (("sway", 2), -2), (("sway", LARGEST), -2), (("part", 4), -22), (("part", LARGEST), -22),
]


class BeforeBeginTest(unittest.TestCase):
    def test_every_other_call_is_named_here(self):
        self.assertEqual({call[0] for call in OTHERS}, set(NUMBERS) - {"begin"})

    def test_every_other_call_answers_minus_11(self):
        for call in OTHERS:
            self.assertEqual(replies(call), [[-11]])

    def test_also_behind_a_begin_that_is_refused(self):
        for call in OTHERS:
            self.assertEqual(
                replies(("begin", 0), call, ("begin", 6), call), [[-22], [-11], [-22], [-11]])

    def test_also_where_another_refusal_is_due(self):
        for call, number in REFUSED:
            if call[0] != "begin":
                self.assertEqual(replies(call), [[-11]])

    def test_nothing_is_kept_of_them(self):
        self.assertEqual(
            replies(("told", [0, 1]), ("not_of",), ("begin", 2), ("mean",)),
            [[-11], [-11], [0], [0, 0, 1]])


class RefusalTest(unittest.TestCase):
    def test_it_is_its_number_alone(self):
        for call, number in REFUSED:
            self.assertEqual(last(("begin", 2), call), [number])

    def test_it_leaves_the_answer_as_it_was(self):
        for call, number in REFUSED:
            for words in ([], [1], [0, 2], [0, 1, 2, 3]):
                self.assertEqual(yeses(2, ("told", words), call), words)

    def test_each_question_is_answered_as_ahead_of_it(self):
        for call, number in REFUSED:
            for words in ([], [1], [0, 2], [1, 2, 3], [0, 1, 2, 3]):
                found = replies(("begin", 2), ("told", words), *QUESTIONS, call, *QUESTIONS)
                self.assertEqual(found[13], [number])
                self.assertEqual(found[14:], found[2:13])

    def test_it_leaves_the_bits_as_they_were(self):
        for call, number in REFUSED:
            self.assertEqual(
                replies(("begin", 2), call, ("ask", 3), ("ask", 4), ("sway", 1), ("sway", 2)),
                [[0], [number], [0], [-22], [0, 0, 1], [-2]])

    def test_a_begin_refused_behind_one_that_is_not(self):
        self.assertEqual(
            replies(("begin", 3), ("bit", 2), ("begin", 6), ("mean",), ("ask", 7)),
            [[0], [4], [-22], [0, 1, 2], [1]])

    def test_what_is_right_behind_a_refusal_is_done(self):
        self.assertEqual(
            replies(("begin", 2), ("bit", 2), ("bit", 1), ("set", 4, 1), ("set", 0, 1)),
            [[0], [-2], [2], [-22], [3]])


class QuestionTest(unittest.TestCase):
    def test_it_leaves_the_answer_as_it_was(self):
        for bits, words in many_answers():
            asked = []
            for call in QUESTIONS + [("ask", 0), ("sway", 0), ("part", 1)]:
                asked.extend([call, ("state",)])
            found = replies(("begin", bits), ("told", words), *asked)
            self.assertEqual(found[3::2], [[bits] + words] * (len(asked) // 2))

    def test_asked_again_it_is_answered_alike(self):
        for bits, words in many_answers():
            found = replies(("begin", bits), ("told", words), *QUESTIONS * 3)[2:]
            self.assertEqual(found, found[:11] * 3)

    def test_it_does_not_say_how_the_answer_was_made(self):
        for made in ([("bit", 1)], [("bit", 1), ("turn", 1), ("not_of",)], [("odd", 2)],
                     [("not_of",), ("set", 0, 0), ("set", 1, 0)], [("least", 9, [0, 9])]):
            self.assertEqual(
                replies(("begin", 2), *made, *QUESTIONS)[-11:],
                replies(("begin", 2), ("told", [3, 2, 2]), *QUESTIONS)[-11:])


class InterfaceTest(unittest.TestCase):
    def test_how_a_line_is_spelled_and_what_is_given_back(self):
        calls = [0, 2, 1, 2, 0, 3, 2, 1, 2, 1, 1, 3, 3, 4, 1, 5, 6, 0, 7, 3, 1, 8, 0, 9, 10, 0]
        given_back = [
            1, 0, 1, 2, 1, 3, 1, 2, 1, 2, 1, 2, 1, 2, 1, 3, 1, 1, 3, 0, 3, 4, 3, 0, 1, 2]
        self.assertEqual(answers(calls), given_back)

    def test_what_the_later_calls_give_back(self):
        calls = [0, 2, 1, 1, 3, 11, 12, 13, 3, 14, 15, 16, 17, 18, 19, 20, 21, 13, 4]
        given_back = [
            1, 0, 1, 1, 3, 0, 1, 1, 3, 0, 3, 4, 3, 0, -1, 2,
            13, 4, 0, 1, 2, 1, 1, 2, 2, 1, 2, 3, -1, 2, 7, 3, 1, 4, 1, 2, 1, 4,
            1, 2, 1, 2, 1, 1, 1, 0, 3, 0, 1, 2, 2, 2, 3, 1, -22]
        self.assertEqual(answers(calls), given_back)

    def test_rows_of_none_and_of_255(self):
        self.assertEqual(answers([0, 1, 1, 0, 9]), [1, 0, 1, 0, 3, 0, 0, 1])
        self.assertEqual(answers([0, 1, 1, 255] + [0] * 255 + [5]), [1, 0, 1, -22, 1, 2])
        self.assertEqual(answers([0, 1, 2, 0, 255] + [0] * 255 + [5]), [1, 0, 1, -22, 1, 2])

    def test_every_call_is_spelled_as_told(self):
        for call in OTHERS:
            self.assertEqual(replies(call, ("begin", 2), ("not_of",)), [[-11], [0], [4]])

    def test_forty_calls(self):
        self.assertEqual(answers([0, 5] + [5] * 39), [1, 0] + [1, 32, 1, 0] * 19 + [1, 32])

    def test_forty_calls_of_the_longest(self):
        self.assertEqual(
            replies(*[("least", LARGEST, [LARGEST] * 255)] * 40), [[-11]] * 40)

    def test_what_is_handed_in_stays_as_it_was(self):
        calls = spell([("begin", 2), ("told", [3, 1, 3]), ("least", 1, [1, 1]), ("set", 0, 1),
                       ("told", [4]), ("turn", 1), ("sway", 0), ("part", 3), ("part", 4),
                       *QUESTIONS])
        before = list(calls)
        answers(calls)
        self.assertEqual(calls, before)

    def test_one_line_knows_nothing_of_another(self):
        self.assertEqual(replies(("begin", 3), ("not_of",)), [[0], [8]])
        self.assertEqual(replies(("mean",)), [[-11]])
        self.assertEqual(replies(("begin", 3), ("mean",)), [[0], [0, 0, 1]])
        self.assertEqual(replies(("mean",)), [[-11]])

    def test_like_lines_are_answered_alike(self):
        for bits, words in many_answers():
            calls = spell([("state",), ("begin", bits), ("told", words), *QUESTIONS, ("not_of",)])
            first = answers(calls)
            self.assertEqual(first[:2], [1, -11])
            self.assertEqual(answers(calls), first)

    def test_the_list_given_back_is_a_new_one(self):
        first = answers([0, 1, 5])
        first.append(9)
        self.assertEqual(answers([0, 1, 5]), [1, 0, 1, 2])

    def test_whole_numbers_are_never_true_or_false(self):
        for call in OTHERS:
            given_back = answers(spell([call, ("begin", 5), call, ("ask", 0), ("ask", 1)]))
            self.assertIs(type(given_back), list)
            self.assertEqual({type(number) for number in given_back}, {int})


if __name__ == "__main__":
    unittest.main()

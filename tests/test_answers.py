"""The interface: how calls are handed in and how answers are told."""

import unittest

from tests.helper import (
    BACK, GUESS, LIST, MILLION, NEXT, TAKE, TEXT, CallsCase, begin, different_words, key, learn, lines, row, run,
    signs,
)
from wordkeysdesk.typist import UnknownCall, answers

SESSION = [
    0, 8, 97, 32, 53, 10, 98, 32, 53, 10,
    2, 2,
    3,
    4,
    1, 7, 2, 99, 99,
    2, 4294967295,
    0, 1, 10,
    6,
    7, 3, 2, 2, 2,
    8,
    9,
    5,
    6,
    5,
    5,
    7, 1, 10,
    0, 0,
    4,
]
TOLD = [
    1, 2,
    1, 2,
    1, 1,
    1, 1,
    1, 0,
    1, -22,
    1, -1001,
    1, -61,
    1, 2,
    7, 6, 98, 32, 98, 32, 99, 99,
    14, 13, 99, 99, 32, 56, 10, 98, 32, 55, 10, 97, 32, 53, 10,
    1, 2,
    3, 2, 99, 99,
    1, 1,
    1, 0,
    1, -22,
    1, 0,
    1, -61,
]


class Answers(CallsCase):

    def test_how_many_numbers_then_these(self):
        self.assertEqual(answers(SESSION), TOLD)

    def test_one_call(self):
        self.assertEqual(answers([3]), [1, -61])
        self.assertEqual(answers([4]), [1, -61])
        self.assertEqual(answers([0, 0]), [1, 0])
        self.assertEqual(answers([1, 5, 0]), [1, -22])
        self.assertEqual(answers([2, 2]), [1, 0])
        self.assertEqual(answers([5]), [1, -2])
        self.assertEqual(answers([6]), [1, -61])
        self.assertEqual(answers([7, 0]), [1, 0])
        self.assertEqual(answers([7, 1, 2]), [1, -33])
        self.assertEqual(answers([8]), [1, 0])
        self.assertEqual(answers([9]), [1, 0])

    def test_what_is_handed_in_is_unchanged(self):
        handed = list(SESSION)
        answers(handed)
        self.assertEqual(handed, SESSION)

    def test_the_same_list_twice_answers_the_same(self):
        handed = list(SESSION)
        self.assertEqual(answers(handed), answers(handed))

    def test_nothing_is_kept_from_one_time_to_the_next(self):
        self.assertEqual(run(begin("a 1\n"), key(2), TAKE, key(2)), [1, 1, 1, 1])
        self.assertEqual(run(NEXT, learn("b", 1), key(2), NEXT, TAKE), [-61, 0, 1, 0, 1])
        self.assertEqual(run(TEXT, LIST, GUESS, BACK), ["", "", -61, -2])

    def test_answer_is_a_list_of_plain_whole_numbers(self):
        told = answers(SESSION)
        self.assertIs(type(told), list)
        for number in told:
            self.assertIs(type(number), int)

    def test_answer_is_a_new_list(self):
        handed = list(SESSION)
        first = answers(handed)
        first.clear()
        self.assertNotEqual(answers(handed), [])

    def test_refused_rows_are_passed_whole(self):
        long_list = [0, 2200] + [3] * 2200
        long_word = [1, 1, 100] + [4] * 100
        self.assertEqual(answers(long_list + long_word + [3]), [1, -22, 1, -22, 1, -61])
        self.assertEqual(answers([1, 0, 2] + signs("ab") + [3]), [1, -22, 1, -61])
        rows = [7, 100] + [8] * 100 + [7, 2, 1, 9] + [7, 1, 5]
        self.assertEqual(answers(rows + [3]), [1, -22, 1, -22, 1, -33, 1, -61])

    def test_most_calls(self):
        self.assert_like(answers([3] * 5000), [1, -61] * 5000)
        self.assert_like(answers(begin("a 1\nb 1\n") + key(2) + [3] * 4998)[-2:], [1, 0])
        self.assert_like(answers([8, 9] * 2500), [1, 0] * 5000)

    def test_most_numbers(self):
        words = begin(lines(different_words(64, length=12), MILLION))
        rows = row([2] * 40) * ((30000 - len(words)) // 42)
        self.assert_like(answers(words + rows), [1, 64] + [1, -33] * (len(rows) // 42))
        short = begin(lines(different_words(3, length=1) + different_words(9, length=2), MILLION))
        self.assert_like(answers(short + rows), [1, 12] + [1, -12] * (len(rows) // 42))

    def test_most_answers(self):
        words = lines(different_words(64, length=12), MILLION)
        told = answers(begin(words) + [9] * 740)
        self.assert_like(told, [1, 64] + ([1345, 1344] + signs(words)) * 740)

    def test_number_of_no_call(self):
        with self.assertRaises(UnknownCall):
            answers([10])


if __name__ == "__main__":
    unittest.main()

"""The interface: how calls are handed in and how answers are told."""

import unittest

from tests.helper import NEXT, TAKE, CallsCase, begin, key, learn, run, signs
from wordkeysdesk.typist import UnknownCall, answers

SESSION = [
    0, 8, 97, 32, 53, 10, 98, 32, 53, 10,
    2, 2,
    3,
    4,
    1, 7, 2, 99, 99,
    2, 4294967295,
    0, 1, 10,
    0, 0,
    4,
]


class Answers(CallsCase):

    def test_how_many_numbers_then_these(self):
        self.assertEqual(answers(SESSION), [1, 2, 1, 2, 1, 1, 1, 1, 1, 0, 1, -22, 1, -1001, 1, 0, 1, -61])

    def test_one_call(self):
        self.assertEqual(answers([3]), [1, -61])
        self.assertEqual(answers([4]), [1, -61])
        self.assertEqual(answers([0, 0]), [1, 0])
        self.assertEqual(answers([1, 5, 0]), [1, -22])
        self.assertEqual(answers([2, 2]), [1, 0])

    def test_what_is_handed_in_is_unchanged(self):
        handed = list(SESSION)
        answers(handed)
        self.assertEqual(handed, SESSION)

    def test_the_same_list_twice_answers_the_same(self):
        handed = list(SESSION)
        self.assertEqual(answers(handed), answers(handed))

    def test_nothing_is_kept_from_one_time_to_the_next(self):
        self.assertEqual(run(begin("a 1\n"), key(2), TAKE, key(2)), [1, 1, 1, 1])
        self.assertEqual(run(NEXT, learn("b", 1), key(2), NEXT, TAKE), [-61, 0, 1, 0, 1])

    def test_answer_is_a_list_of_plain_whole_numbers(self):
        told = answers(SESSION)
        self.assertIs(type(told), list)
        for number in told:
            self.assertIs(type(number), int)

    def test_answer_is_a_new_list(self):
        handed = list(SESSION)
        first = answers(handed)
        first.clear()
        self.assertNotEqual(answers(handed), [])

    def test_refused_rows_are_passed_whole(self):
        long_list = [0, 2200] + [3] * 2200
        long_word = [1, 1, 100] + [4] * 100
        self.assertEqual(answers(long_list + long_word + [3]), [1, -22, 1, -22, 1, -61])
        self.assertEqual(answers([1, 0, 2] + signs("ab") + [3]), [1, -22, 1, -61])

    def test_most_calls(self):
        self.assertEqual(answers([3] * 5000), [1, -61] * 5000)
        self.assertEqual(answers(begin("a 1\nb 1\n") + key(2) + [3] * 4998)[-2:], [1, 0])

    def test_number_of_no_call(self):
        with self.assertRaises(UnknownCall):
            answers([10])


if __name__ == "__main__":
    unittest.main()

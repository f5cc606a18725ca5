"""Promise 4: next."""

import itertools
import unittest

from tests.helper import (
    NEXT, TAKE, CallsCase, begin, different_words, key, last, lines, run, typed,
)


class Refusals(CallsCase):

    def test_no_word_is_meant(self):
        self.assertEqual(run(NEXT), [-61])
        self.assertEqual(run(key(2), NEXT), [0, -61])
        self.assertEqual(run(begin("a 1\n"), NEXT), [1, -61])
        self.assertEqual(run(begin("ab 1\n"), key(2), NEXT), [1, 0, -61])
        self.assertEqual(run(begin("a 1\n"), key(2), key(2), NEXT), [1, 1, 0, -61])
        self.assertEqual(run(begin("a 1\n"), key(2), TAKE, NEXT), [1, 1, 1, -61])

    def test_refused_changes_nothing(self):
        self.assert_unchanged_by([begin("a 5\nb 5\n")], NEXT, -61)
        self.assert_unchanged_by([begin("a 5\nb 5\n"), key(3)], NEXT, -61)


class Places(CallsCase):

    def test_one_word(self):
        self.assertEqual(run(begin("a 1\n"), key(2), NEXT, NEXT), [1, 1, 0, 0])

    def test_several_and_behind_the_last_the_first(self):
        calls = [begin("a 1\nb 2\nc 3\n"), key(2), NEXT, NEXT, NEXT, NEXT]
        self.assertEqual(run(*calls), [3, 3, 1, 2, 0, 1])

    def test_64_words(self):
        calls = [begin(lines(different_words(64), 1)), *[key(2)] * 4, *[NEXT] * 65]
        self.assertEqual(run(*calls), [64, 0, 0, 0, 64] + list(range(1, 64)) + [0, 1])

    def test_other_words_are_not_passed(self):
        calls = [begin("d 9\na 1\nab 5\nb 2\n"), key(2), NEXT, NEXT]
        self.assertEqual(run(*calls), [4, 2, 1, 0])


class Order(CallsCase):

    def assert_order(self, told, words):
        """The words, of like keys and like counts 999,999, are shown in this order."""
        start = [begin(lines(told, 999999)), *typed(words[0])]
        for place, word in enumerate(words):
            for rounds in (0, 1):
                calls = start + [NEXT] * (place + rounds * len(words)) + [TAKE]
                self.assertEqual(last(*calls), 1)
                self.assert_taken(calls, word, [other for other in words if other != word])

    def test_like_counts_are_by_their_letters(self):
        for told in itertools.permutations(("a", "b", "c")):
            self.assert_order(told, ["a", "b", "c"])
        for told in itertools.permutations(("pa", "qa", "ra", "sc")):
            self.assert_order(told, ["pa", "qa", "ra", "sc"])
        self.assert_order(["ba", "ac", "ab", "bb", "aa"], ["aa", "ab", "ac", "ba", "bb"])

    def test_greater_counts_come_first(self):
        calls = [begin("a 999998\nb 1000000\nc 999999\n"), key(2)]
        self.assertEqual(last(*calls, TAKE), -12)
        second = calls + [NEXT, TAKE]
        self.assertEqual(last(*second), 1)
        self.assert_taken(second, "c", ["a", "b"])
        # Taken twice, a reaches the million; it's shown third, then first of two like it.
        third = calls + [NEXT, NEXT, TAKE]
        self.assertEqual(run(*third)[-3:], [1, 2, 1])
        again = third + [key(2), NEXT, TAKE]
        self.assertEqual(last(*again), 2)
        self.assert_taken(again, "a", ["b", "c"])

    def test_counts_are_compared_as_numbers(self):
        self.assertEqual(last(begin("a 999999\nb 1000000\n"), key(2), TAKE), -12)
        self.assertEqual(last(begin("a 999999\nb 1000000\n"), key(2), NEXT, TAKE), 1)

    def test_next_as_often_as_words_are_meant_is_the_same_again(self):
        for how_many in range(1, 10):
            words = different_words(how_many)
            for place in range(how_many):
                calls = [begin(lines(words, 3)), *[key(2)] * 4, *[NEXT] * (how_many + place)]
                self.assertEqual(last(*calls), place)


if __name__ == "__main__":
    unittest.main()

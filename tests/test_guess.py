"""Promise 7: guess."""

import unittest

from tests.helper import (
    BACK, GUESS, LIST, NEXT, TAKE, TEXT, CallsCase, begin, different_words, key, last, learn, lines, row, run, typed,
)
from wordkeysdesk.typist import answers


class Refusals(CallsCase):

    def test_no_keys(self):
        self.assertEqual(run(GUESS), [-61])
        self.assertEqual(run(begin("a 1\n"), GUESS), [1, -61])
        self.assertEqual(run(begin("a 1\n"), key(2), TAKE, GUESS), [1, 1, 1, -61])
        self.assertEqual(run(begin("a 1\n"), key(2), BACK, GUESS), [1, 1, 0, -61])
        self.assertEqual(run(begin("a 1\n"), key(2), begin("a 1\n"), GUESS), [1, 1, 1, -61])
        self.assertEqual(run(begin("a 1\n"), row([2]), GUESS), [1, 1, -61])

    def test_keys_that_no_word_has(self):
        self.assertEqual(run(key(2), GUESS), [0, -61])
        self.assertEqual(run(begin("a 1\n"), key(3), GUESS), [1, 0, -61])
        self.assertEqual(run(begin("ab 1\n"), key(2), GUESS), [1, 0, -61])
        self.assertEqual(run(begin("a 1\n"), key(2), key(2), GUESS), [1, 1, 0, -61])

    def test_refused_is_one_number(self):
        self.assertEqual(answers([6]), [1, -61])

    def test_refused_changes_nothing(self):
        self.assert_unchanged_by([begin("a 5\nb 5\n"), key(2), TAKE], GUESS, -61)
        self.assert_unchanged_by([begin("a 5\nb 5\n"), key(3)], GUESS, -61)


class Shown(CallsCase):

    def test_how_many_bytes_then_these(self):
        self.assertEqual(answers(begin("bad 1\n") + [2, 2, 2, 2, 2, 3, 6]), [1, 1, 1, 0, 1, 0, 1, 1, 4, 3, 98, 97, 100])

    def test_one_word(self):
        self.assertEqual(run(begin("a 1\nd 9\n"), key(2), GUESS, GUESS), [2, 1, "a", "a"])
        self.assertEqual(last(begin("abcdefghijkl 1\n"), *typed("abcdefghijkl"), GUESS), "abcdefghijkl")

    def test_every_letter(self):
        for letter in "abcdefghijklmnopqrstuvwxyz":
            self.assertEqual(last(begin(f"{letter} 1\n"), *typed(letter), GUESS), letter)

    def test_several_the_most_used_first(self):
        self.assertEqual(last(begin("home 2\ngood 3\ngone 1\n"), *typed("good"), GUESS), "good")
        self.assertEqual(last(begin("c 5\nb 5\na 4\n"), key(2), GUESS), "b")

    def test_behind_next(self):
        calls = [begin("home 2\ngood 3\ngone 2\n"), *typed("good"), GUESS, NEXT, GUESS, NEXT, GUESS, NEXT, GUESS]
        self.assertEqual(run(*calls)[5:], ["good", 1, "gone", 2, "home", 0, "good"])

    def test_64_words_of_like_keys_and_counts(self):
        words = different_words(64)
        calls = [begin(lines(reversed(words), 3)), *[key(2)] * 4, *[GUESS, NEXT] * 64]
        self.assertEqual(run(*calls)[5::2], words)

    def test_key_behind_next(self):
        calls = [begin("a 5\nb 5\nab 5\naa 5\n"), key(2), NEXT, GUESS, key(2), GUESS]
        self.assertEqual(run(*calls)[3:], ["b", 2, "aa"])

    def test_word_that_comes_before_another_by_being_taken(self):
        self.assertEqual(last(begin("a 5\nb 5\n"), key(2), NEXT, TAKE, key(2), GUESS), "b")
        self.assertEqual(last(begin("a 5\nb 4\n"), key(2), NEXT, TAKE, key(2), GUESS), "a")
        self.assertEqual(last(begin("a 4\nb 5\n"), key(2), NEXT, TAKE, key(2), GUESS), "a")

    def test_word_that_comes_before_another_by_learn(self):
        self.assertEqual(last(begin("a 5\nb 5\n"), learn("b", 6), key(2), GUESS), "b")
        self.assertEqual(last(begin("a 5\nb 5\n"), learn("c", 6), key(2), GUESS), "c")

    def test_nothing_changes(self):
        calls = [begin("a 5\nb 5\n"), key(2), TAKE, key(2), NEXT]
        self.assertEqual(run(*calls, GUESS, TEXT, LIST, NEXT, BACK)[-4:], run(*calls, TEXT, LIST, NEXT, BACK)[-4:])


if __name__ == "__main__":
    unittest.main()

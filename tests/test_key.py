"""Promise 3: key."""

import unittest

from tests.helper import (
    LETTERS_ON_KEYS, NEXT, TAKE, CallsCase, begin, key, last, learn, lines, run, typed,
)

ALPHABET = "abcdefghijklmnopqrstuvwxyz"


class Refusals(CallsCase):

    def test_no_key(self):
        for k in (0, 1, 10, 11, 50, 57, 255, 256, 4294967295):
            self.assertEqual(run(key(k)), [-22], k)

    def test_thirteenth_key(self):
        self.assertEqual(run(*[key(9)] * 14), [0] * 12 + [-12, -12])

    def test_no_key_comes_ahead_of_twelve_keys(self):
        for k in (0, 1, 10, 4294967295):
            self.assertEqual(last(*[key(2)] * 12, key(k)), -22)

    def test_refused_changes_nothing(self):
        before = [begin("a 5\nb 5\nc 5\n"), key(2), NEXT]
        for k in (0, 1, 10, 4294967295):
            self.assert_unchanged_by(before, key(k), -22)

    def test_refused_thirteenth_key_keeps_keys_and_place(self):
        calls = [begin(lines(["a" * 12, "b" * 12, "c" * 12], 1)), *[key(2)] * 12, NEXT]
        self.assertEqual(run(*calls, key(2), NEXT, TAKE)[-3:], [-12, 2, 1])
        self.assertEqual(run(*calls, key(1), NEXT, TAKE)[-3:], [-22, 2, 1])


class Meant(CallsCase):

    def test_each_key_has_its_letters(self):
        every_letter = begin(lines(ALPHABET, 1))
        for k, letters in LETTERS_ON_KEYS.items():
            self.assertEqual(run(every_letter, key(k)), [26, len(letters)])
            for letter in ALPHABET:
                self.assertEqual(last(begin(f"{letter} 1\n"), key(k)), 1 if letter in letters else 0)

    def test_words_with_just_these_keys(self):
        words = begin("a 1\nab 1\nba 1\nabc 1\nad 1\nda 1\n")
        self.assertEqual(run(words, key(2), key(2), key(2), key(2)), [6, 1, 2, 1, 0])
        self.assertEqual(run(words, key(2), key(3), key(2)), [6, 1, 1, 0])
        self.assertEqual(run(words, key(3), key(2)), [6, 0, 1])

    def test_no_words(self):
        self.assertEqual(run(*[key(k) for k in range(2, 10)]), [0] * 8)

    def test_twelfth_key(self):
        longest = "abcdefghijkl"
        self.assertEqual(run(begin(f"{longest} 1\n"), *typed(longest)), [1] + [0] * 11 + [1])
        self.assertEqual(run(begin(f"{longest} 1\n"), *typed(longest), key(2), TAKE)[-2:], [-12, 1])

    def test_key_behind_next_sets_the_place_to_the_first(self):
        words = begin("a 1\nb 1\nc 1\naa 1\nab 1\nac 1\n")
        self.assertEqual(run(words, key(2), NEXT, NEXT, key(2), NEXT), [6, 3, 1, 2, 3, 1])

    def test_key_behind_next_shows_the_first_word(self):
        calls = [begin("a 5\nb 5\nba 999999\nab 999999\n"), key(2), NEXT, key(2), TAKE]
        self.assertEqual(run(*calls), [4, 2, 1, 2, 1])
        self.assert_taken(calls, "ab", ["ba"])

    def test_key_behind_next_where_fewer_words_are_meant(self):
        calls = [begin("a 1\nb 1\nc 1\nab 1\n"), key(2), NEXT, NEXT, key(2), TAKE]
        self.assertEqual(run(*calls), [4, 3, 1, 2, 1, 1])

    def test_learned_words_are_meant(self):
        self.assertEqual(run(learn("gone", 1), learn("home", 1), learn("good", 1), *typed("good")),
                         [0, 0, 0, 0, 0, 0, 3])


if __name__ == "__main__":
    unittest.main()

"""Promise 2: learn."""

import unittest

from tests.helper import (
    MILLION, NEXT, TAKE, CallsCase, begin, different_words, key, last, learn, lines, run, typed,
)

FULL = begin(lines(different_words(64), 5))


class Refusals(CallsCase):

    def test_no_word(self):
        for word in ("", "z" * 13, "z" * 100, "A", "aB", "a b", "a ", " a", "a\n", "a1", "`", "{", "\0", "\xe4"):
            self.assertEqual(run(learn(word, 1)), [-22], word)

    def test_no_count(self):
        for count in (0, MILLION + 1, 2 * MILLION, 4294967295):
            self.assertEqual(run(learn("a", count)), [-22], count)
            self.assertEqual(run(learn("", count)), [-22], count)
            self.assertEqual(run(begin("a 1\n"), learn("a", count)), [1, -22], count)

    def test_keys_were_pressed(self):
        self.assertEqual(run(key(2), learn("a", 1)), [0, -11])
        self.assertEqual(run(begin("a 1\n"), key(2), learn("a", 2)), [1, 1, -11])
        self.assertEqual(run(begin("a 1\n"), key(9), learn("a", 2)), [1, 0, -11])

    def test_which_of_several_comes_first(self):
        self.assertEqual(last(key(2), learn("", 1)), -22)
        self.assertEqual(last(key(2), learn("a", 0)), -22)
        self.assertEqual(last(FULL, learn("A", 1)), -22)
        self.assertEqual(last(FULL, learn("zz", 0)), -22)
        self.assertEqual(last(FULL, key(2), learn("zz", 1)), -11)
        self.assertEqual(last(FULL, key(2), learn("zz", MILLION + 1)), -22)

    def test_refused_changes_nothing(self):
        before = [begin("a 5\nb 5\n"), key(2), TAKE]
        self.assert_unchanged_by(before, learn("b", 0), -22)
        self.assert_unchanged_by(before, learn("b", MILLION + 1), -22)
        self.assert_unchanged_by(before, learn("zZ", 1), -22)
        self.assert_unchanged_by(before + [key(2), NEXT], learn("b", MILLION), -11)
        self.assert_unchanged_by(before + [key(2), NEXT], learn("c", MILLION), -11)
        self.assert_unchanged_by([FULL], learn("a", 1), -12)


class Learned(CallsCase):

    def test_new_words(self):
        calls = [learn("a", 1), learn("z" * 12, MILLION), learn("b", 3), key(2)]
        self.assertEqual(run(*calls), [0, 0, 0, 2])

    def test_word_that_the_list_has(self):
        self.assertEqual(run(begin("a 1\n"), learn("a", 1), learn("a", 2)), [1, 1, 1])
        self.assertEqual(run(learn("a", 1), learn("a", 2), key(2)), [0, 1, 1])

    def test_count_is_the_told_one_from_now_on(self):
        self.assertEqual(last(begin("a 5\n"), learn("a", MILLION), key(2), TAKE), -12)
        self.assertEqual(last(begin("a 1000000\n"), learn("a", 999999), key(2), TAKE, key(2), TAKE), -12)
        self.assertEqual(last(learn("a", MILLION), key(2), TAKE), -12)
        self.assertEqual(last(learn("a", 999999), key(2), TAKE), 1)

    def test_count_can_become_smaller(self):
        calls = [begin("a 1000000\nb 999999\n"), learn("a", 1), key(2), TAKE]
        self.assertEqual(last(*calls), 1)
        self.assert_taken(calls, "b", ["a"])

    def test_word_that_the_list_has_with_64_words(self):
        for word in different_words(64):
            self.assertEqual(last(FULL, learn(word, 7)), 1)

    def test_new_word_as_64th_and_as_65th(self):
        words = different_words(65)
        calls = [learn(word, 1) for word in words]
        self.assertEqual(run(*calls), [0] * 64 + [-12])
        almost_full = begin(lines(words[:63], 1))
        self.assertEqual(run(almost_full, learn("z", 1), learn("zz", 1), learn("z", 2)), [63, 0, -12, 1])
        self.assertEqual(last(FULL, learn("z", 1)), -12)

    def test_refused_word_is_not_in_the_list(self):
        self.assertEqual(last(FULL, learn("z", 1), key(9)), 0)
        self.assertEqual(last(FULL, learn("z", 1), learn("z", 1)), -12)

    def test_text_stays(self):
        calls = [begin("a 1\n"), key(2), TAKE, learn("a", 3), learn("b", 2), key(2), TAKE]
        self.assertEqual(last(*calls), 2)

    def test_after_take_no_keys_are_pressed(self):
        self.assertEqual(last(begin("ab 1\n"), *typed("ab"), TAKE, learn("c", 1)), 0)


if __name__ == "__main__":
    unittest.main()

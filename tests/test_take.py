"""Promise 5: take."""

import unittest

from tests.helper import NEXT, TAKE, CallsCase, begin, key, last, learn, run, typed


class Refusals(CallsCase):

    def test_none_is_shown(self):
        self.assertEqual(run(TAKE), [-61])
        self.assertEqual(run(begin("a 1\n"), TAKE), [1, -61])
        self.assertEqual(run(key(2), TAKE), [0, -61])
        self.assertEqual(run(begin("a 1\n"), key(3), TAKE), [1, 0, -61])
        self.assertEqual(run(begin("ab 1\n"), key(2), TAKE), [1, 0, -61])
        self.assertEqual(run(begin("a 1\n"), key(2), key(2), TAKE), [1, 1, 0, -61])

    def test_hundredth_word_and_one_more(self):
        calls = [begin("a 1\n")] + [key(2), TAKE] * 101
        self.assertEqual(run(*calls)[2::2], list(range(1, 101)) + [-12])

    def test_none_is_shown_comes_ahead_of_a_full_text(self):
        full = [begin("a 1\n")] + [key(2), TAKE] * 100
        self.assertEqual(last(*full, TAKE), -61)
        self.assertEqual(last(*full, key(3), TAKE), -61)

    def test_count_of_a_million(self):
        self.assertEqual(run(begin("a 1000000\n"), key(2), TAKE), [1, 1, -12])
        self.assertEqual(run(begin("a 999999\n"), key(2), TAKE, key(2), TAKE), [1, 1, 1, 1, -12])
        self.assertEqual(run(begin("a 999998\n"), *[key(2), TAKE] * 3)[2::2], [1, 2, -12])

    def test_only_the_shown_word_counts(self):
        self.assertEqual(run(begin("a 1000000\nb 1\n"), key(2), NEXT, TAKE), [2, 2, 1, 1])
        self.assertEqual(run(begin("a 1\nd 1000000\n"), key(2), TAKE), [2, 1, 1])

    def test_refused_changes_nothing(self):
        self.assert_unchanged_by([begin("a 5\nb 5\n")], TAKE, -61)
        self.assert_unchanged_by([begin("a 5\nb 5\n"), key(3)], TAKE, -61)
        self.assert_unchanged_by([begin("a 1000000\nb 1000000\n"), key(2), NEXT], TAKE, -12)
        full = [begin("a 500\nb 5\n")] + [key(2), TAKE] * 100
        self.assert_unchanged_by(full + [key(2), NEXT], TAKE, -12)

    def test_refused_keeps_keys_and_place(self):
        calls = [begin("a 1000000\nb 1000000\nc 1000000\n"), key(2), NEXT, TAKE]
        self.assertEqual(run(*calls, NEXT, learn("a", 1))[-3:], [-12, 2, -11])
        full = [begin("a 1\nb 1\nc 1\n")] + [key(2), TAKE] * 100
        self.assertEqual(run(*full, key(2), NEXT, TAKE, NEXT, learn("a", 1))[-4:], [1, -12, 2, -11])


class Taken(CallsCase):

    def test_there_are_no_keys(self):
        self.assertEqual(run(begin("a 1\n"), key(2), TAKE, key(2), TAKE), [1, 1, 1, 1, 2])
        self.assertEqual(last(begin("a 1\n"), key(2), TAKE, TAKE), -61)
        self.assertEqual(last(begin("a 1\n"), key(2), TAKE, learn("b", 1)), 0)
        twelve = "a" * 12
        self.assertEqual(last(begin(f"{twelve} 1\n"), *typed(twelve), TAKE, key(2)), 0)

    def test_place_is_the_first(self):
        calls = [begin("a 1\nb 1\nc 1\n"), key(2), NEXT, TAKE, key(2), NEXT]
        self.assertEqual(last(*calls), 1)

    def test_words_of_several_keys(self):
        calls = [begin("good 3\nhome 2\nis 1\n"), *typed("home"), NEXT, TAKE, *typed("is"), TAKE, *typed("good"), TAKE]
        self.assertEqual(run(*calls), [3, 0, 0, 0, 2, 1, 1, 0, 1, 2, 0, 0, 0, 2, 3])

    def test_it_is_the_shown_word(self):
        calls = [begin("a 999999\nb 999999\nc 999999\n"), key(2)]
        self.assert_taken(calls + [TAKE], "a", ["b", "c"])
        self.assert_taken(calls + [NEXT, TAKE], "b", ["a", "c"])
        self.assert_taken(calls + [NEXT, NEXT, TAKE], "c", ["a", "b"])
        self.assert_taken(calls + [NEXT, NEXT, NEXT, TAKE], "a", ["b", "c"])

    def test_word_comes_before_another_of_like_count_by_being_taken(self):
        # b, taken once, has the million and so is shown before a, which can be taken.
        calls = [begin("a 999999\nb 999999\n"), key(2), NEXT, TAKE, key(2)]
        self.assertEqual(last(*calls, TAKE), -12)
        self.assertEqual(last(*calls, NEXT, TAKE), 2)

    def test_word_comes_before_another_by_its_letters_by_being_taken(self):
        # a draws level with b and is before it by its letters: it's taken once more.
        calls = [begin("a 999998\nb 999999\n"), key(2), NEXT, TAKE, key(2), TAKE]
        self.assertEqual(last(*calls), 2)
        self.assert_taken(calls, "a", ["b"])

    def test_word_that_draws_level_stays_behind_by_its_letters(self):
        calls = [begin("a 999999\nb 999998\n"), key(2), NEXT, TAKE, key(2), TAKE]
        self.assertEqual(last(*calls), 2)
        self.assert_taken(calls, "a", ["b"])

    def test_other_words_keep_their_counts(self):
        calls = [begin("a 999999\nb 999999\nd 999999\n"), key(2), TAKE]
        self.assertEqual(last(*calls, key(2), NEXT, TAKE), 2)
        self.assertEqual(last(*calls, key(3), TAKE), 2)


if __name__ == "__main__":
    unittest.main()

"""Promise 6: back."""

import unittest

from tests.helper import (
    BACK, GUESS, LIST, MILLION, NEXT, TAKE, TEXT, CallsCase, begin, key, last, learn, lines, row_of, run, typed,
)


class WithinAWord(CallsCase):

    def test_one_key(self):
        self.assertEqual(run(key(2), BACK, BACK), [0, 0, -2])
        self.assertEqual(run(begin("a 1\n"), key(2), BACK, GUESS, key(2), GUESS), [1, 1, 0, -61, 1, "a"])

    def test_several_keys(self):
        calls = [begin("a 1\nad 1\nadg 1\n"), *typed("adg"), GUESS, BACK, GUESS, BACK, GUESS, BACK, GUESS, BACK]
        self.assertEqual(run(*calls)[4:], ["adg", 2, "ad", 1, "a", 0, -61, -2])

    def test_it_is_the_last_key_that_goes(self):
        calls = [begin("ad 1\nae 1\nda 1\nag 1\n"), key(2), key(4), BACK, key(3), GUESS, NEXT, GUESS]
        self.assertEqual(run(*calls)[3:], [1, 2, "ad", 1, "ae"])

    def test_twelve_keys(self):
        calls = [*[key(2)] * 12, key(2), BACK, key(2), key(2)]
        self.assertEqual(run(*calls)[12:], [-12, 11, 0, -12])
        self.assertEqual(run(*[key(2)] * 12, *[BACK] * 13)[12:], list(range(11, -1, -1)) + [-2])

    def test_place_is_the_first_behind_next(self):
        words = begin("a 5\nb 5\nc 5\naa 5\nab 5\nac 5\n")
        calls = [words, key(2), key(2), NEXT, NEXT, BACK, GUESS, NEXT]
        self.assertEqual(run(*calls)[-5:], [1, 2, 1, "a", 1])
        self.assertEqual(run(words, key(2), NEXT, BACK, key(2), GUESS, NEXT)[3:], [0, 3, "a", 1])

    def test_place_is_the_first_where_fewer_words_are_meant(self):
        calls = [begin("a 1\naa 1\nab 1\nac 1\n"), key(2), key(2), NEXT, NEXT, BACK, GUESS]
        self.assertEqual(run(*calls)[-3:], [2, 1, "a"])

    def test_text_and_list_stay(self):
        calls = [begin("a 5\nb 4\n"), key(2), TAKE, key(2), key(2), BACK, TEXT, LIST, BACK, TEXT, LIST]
        self.assertEqual(run(*calls)[5:], [1, "a", "a 6\nb 4\n", 0, "a", "a 6\nb 4\n"])

    def test_keys_that_no_word_has(self):
        self.assertEqual(run(begin("a 1\n"), key(9), key(9), BACK, GUESS), [1, 0, 0, 1, -61])

    def test_without_keys_learn_is_not_refused(self):
        self.assertEqual(run(key(2), learn("a", 1), BACK, learn("a", 1)), [0, -11, 0, 0])


class NoText(CallsCase):

    def test_refused(self):
        self.assertEqual(run(BACK), [-2])
        self.assertEqual(run(begin("a 1\n"), BACK), [1, -2])
        self.assertEqual(run(begin("a 1\n"), key(2), TAKE, begin("a 1\n"), BACK), [1, 1, 1, 1, -2])
        self.assertEqual(run(begin("a 1\n"), key(2), TAKE, BACK, BACK, BACK), [1, 1, 1, 1, 0, -2])

    def test_refused_changes_nothing(self):
        self.assert_unchanged_by([], BACK, -2)
        self.assert_unchanged_by([begin("a 5\nb 5\n")], BACK, -2)
        self.assert_unchanged_by([begin("a 5\nb 5\n"), key(2), NEXT, BACK], BACK, -2)


class TakenBack(CallsCase):

    def test_word_goes_and_its_count_is_one_less(self):
        calls = [begin("a 5\nb 4\n"), key(2), TAKE, TEXT, LIST, BACK, TEXT, LIST, GUESS]
        self.assertEqual(run(*calls)[2:], [1, "a", "a 6\nb 4\n", 1, "", "a 5\nb 4\n", "a"])

    def test_only_the_last_word_goes(self):
        calls = [begin("good 3\nis 2\n"), *typed("good"), TAKE, *typed("is"), TAKE, BACK, TEXT, LIST, GUESS]
        self.assertEqual(run(*calls)[-5:], [2, 2, "good", "good 4\nis 2\n", "is"])

    def test_its_keys_are_pressed(self):
        calls = [begin("ad 1\nadg 1\n"), *typed("ad"), TAKE, BACK]
        self.assertEqual(run(*calls, learn("a", 1))[-2:], [2, -11])
        self.assertEqual(run(*calls, key(4), GUESS)[-2:], [1, "adg"])
        self.assertEqual(run(*calls, BACK, BACK, BACK)[-3:], [1, 0, -2])

    def test_word_of_twelve_letters(self):
        word = "abcdefghijkl"
        calls = [begin(f"{word} 1\n"), *typed(word), TAKE, BACK, GUESS, key(2), BACK]
        self.assertEqual(run(*calls)[-5:], [1, 12, word, -12, 11])

    def test_taken_again(self):
        calls = [begin("a 5\nb 5\n"), key(2), NEXT, TAKE, BACK, TAKE, TEXT, LIST]
        self.assertEqual(run(*calls)[3:], [1, 1, 1, "b", "b 6\na 5\n"])

    def test_word_behind_word(self):
        calls = [begin("ad 7\nb 7\n"), *typed("ad"), TAKE, *typed("b"), TAKE, *typed("ad"), TAKE]
        backs = [BACK, BACK, BACK, BACK, BACK, BACK, BACK, BACK, BACK]
        self.assertEqual(run(*calls, *backs)[-9:], [2, 1, 0, 1, 0, 2, 1, 0, -2])
        self.assertEqual(run(*calls, *backs, TEXT, LIST)[-2:], ["", "ad 7\nb 7\n"])

    def test_hundredth_word(self):
        calls = [begin("a 1\n"), *[key(2), TAKE] * 100, BACK, LIST, TAKE, LIST, key(2), TAKE]
        self.assertEqual(run(*calls)[-6:], [1, "a 100\n", 100, "a 101\n", 1, -12])

    def test_count_of_a_million(self):
        calls = [begin("a 999999\n"), key(2), TAKE, LIST, BACK, LIST, TAKE]
        self.assertEqual(run(*calls)[2:], [1, "a 1000000\n", 1, "a 999999\n", 1])
        calls = [begin("a 5\n"), key(2), TAKE, learn("a", MILLION), BACK, LIST]
        self.assertEqual(run(*calls)[3:], [1, 1, "a 999999\n"])

    def test_count_is_1_at_least(self):
        calls = [begin("a 5\n"), key(2), TAKE]
        self.assertEqual(run(*calls, learn("a", 1), BACK, LIST, TEXT)[3:], [1, 1, "a 1\n", ""])
        self.assertEqual(run(*calls, learn("a", 2), BACK, LIST)[3:], [1, 1, "a 1\n"])
        self.assertEqual(run(*calls, learn("a", 3), BACK, LIST)[3:], [1, 1, "a 2\n"])

    def test_count_stays_1_for_several_words(self):
        calls = [begin("a 1\n"), *[key(2), TAKE] * 3, learn("a", 2), *[BACK, BACK] * 3, LIST, TEXT]
        self.assertEqual(run(*calls)[-2:], ["a 1\n", ""])

    def test_other_words_keep_their_counts(self):
        calls = [begin("a 5\nb 5\nd 5\n"), key(2), TAKE, key(2), BACK, BACK, LIST]
        self.assertEqual(last(*calls), "a 5\nb 5\nd 5\n")


class Place(CallsCase):

    def assert_place(self, calls, place, word, meant):
        """Behind the calls, word is shown at the place among the meant ones."""
        self.assertEqual(last(*calls, GUESS), word)
        self.assertEqual(last(*calls, NEXT), (place + 1) % meant)
        self.assertEqual(last(*calls, *[NEXT] * meant), place)
        self.assertEqual(last(*calls, *[NEXT] * meant, GUESS), word)

    def test_alone(self):
        self.assert_place([begin("a 5\nd 9\n"), key(2), TAKE, BACK], 0, "a", 1)

    def test_words_of_like_counts(self):
        for place, word in enumerate("abc"):
            for told in (["a", "b", "c"], ["c", "b", "a"]):
                calls = [begin(lines(told, 5)), key(2), *[NEXT] * place, TAKE, BACK]
                self.assert_place(calls, place, word, 3)

    def test_words_of_other_counts(self):
        for place, word in enumerate("bca"):
            calls = [begin("a 5\nb 9\nc 7\nd 8\n"), key(2), *[NEXT] * place, TAKE, BACK]
            self.assert_place(calls, place, word, 3)

    def test_counts_one_apart(self):
        # Taken, each word passes or draws level with the one before it; back undoes that.
        for place, word in enumerate("cba"):
            calls = [begin("a 5\nb 6\nc 7\n"), key(2), *[NEXT] * place, TAKE, BACK]
            self.assert_place(calls, place, word, 3)

    def test_other_words_learned_since(self):
        taken = [begin("b 5\n"), key(2), TAKE]
        self.assert_place([*taken, learn("a", 5), learn("c", 5), BACK], 1, "b", 3)
        self.assert_place([*taken, learn("a", 6), learn("c", 6), BACK], 2, "b", 3)
        self.assert_place([*taken, learn("a", 4), learn("c", 5), BACK], 0, "b", 3)

    def test_count_learned_since(self):
        taken = [begin("a 5\nb 5\nc 5\n"), key(2), TAKE]
        self.assert_place([*taken, learn("a", 1), BACK], 2, "a", 3)
        self.assert_place([*taken, learn("a", 1), learn("b", 1), BACK], 1, "a", 3)
        self.assert_place([*taken, learn("a", 6), BACK], 0, "a", 3)
        self.assert_place([*taken, learn("a", 5), BACK], 2, "a", 3)

    def test_same_word_twice_in_the_text(self):
        # Only when both are back does b stand behind a again.
        calls = [begin("a 5\nb 4\n"), key(2), NEXT, TAKE, key(2), NEXT, TAKE, BACK]
        self.assert_place(calls, 1, "b", 2)
        calls = [begin("a 5\nb 5\n"), key(2), NEXT, TAKE, key(2), TAKE, BACK]
        self.assert_place(calls, 0, "b", 2)
        self.assert_place([*calls, BACK, BACK], 1, "b", 2)

    def test_key_behind_back_sets_the_place_to_the_first(self):
        calls = [begin("a 5\nb 5\naa 5\nab 5\n"), key(2), NEXT, TAKE, BACK, key(2), GUESS]
        self.assertEqual(last(*calls), "aa")


class BehindRow(CallsCase):

    def test_words_go_one_by_one(self):
        calls = [begin("good 5\nhome 4\nis 9\n"), row_of("goodisgood"), TEXT, LIST]
        self.assertEqual(run(*calls)[1:], [3, "good is good", "is 10\ngood 7\nhome 4\n"])
        self.assertEqual(run(*calls, BACK, TEXT, LIST, GUESS)[4:], [4, "good is", "is 10\ngood 6\nhome 4\n", "good"])
        gone = [*calls, *[BACK] * 5]
        self.assertEqual(run(*gone, BACK, TEXT, LIST)[-4:], [0, 2, "good", "is 9\ngood 6\nhome 4\n"])
        self.assertEqual(run(*gone, *[BACK] * 4, GUESS, TEXT, LIST)[-6:],
                         [1, 0, 4, "good", "", "is 9\ngood 5\nhome 4\n"])

    def test_place_among_others(self):
        # Told anew behind the row, c's count falls to that of a and b when c is taken back.
        calls = [begin("a 5\nb 5\nc 6\n"), row_of("c"), learn("c", 6), BACK, GUESS, NEXT, LIST]
        self.assertEqual(run(*calls)[-4:], [1, "c", 0, "a 5\nb 5\nc 5\n"])


if __name__ == "__main__":
    unittest.main()

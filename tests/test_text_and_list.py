"""Promise 9: text and list."""

import unittest

from tests.helper import (
    BACK, LIST, MILLION, NEXT, TAKE, TEXT, CallsCase, begin, different_words, key, last, learn, lines, row, row_of,
    run, typed,
)
from wordkeysdesk.typist import answers


class Text(CallsCase):

    def test_no_words(self):
        self.assertEqual(answers([8]), [1, 0])
        self.assertEqual(run(begin("a 1\n"), TEXT, key(2), TEXT), [1, "", 1, ""])

    def test_how_many_bytes_then_these(self):
        calls = begin("a 1\nbd 1\n") + [2, 2, 4, 8, 2, 2, 2, 3, 4, 8]
        self.assertEqual(answers(calls), [1, 2, 1, 1, 1, 1, 2, 1, 97, 1, 1, 1, 1, 1, 2, 5, 4, 97, 32, 98, 100])

    def test_several(self):
        calls = [begin("good 3\nhome 2\nis 1\n"), *typed("home"), NEXT, TAKE, *typed("is"), TAKE, *typed("good"), TAKE]
        self.assertEqual(last(*calls, TEXT), "home is good")

    def test_pressed_keys_are_not_of_it(self):
        self.assertEqual(last(begin("a 1\nb 1\n"), key(2), TAKE, key(2), NEXT, TEXT), "a")

    def test_hundred_words(self):
        word = "abcdefghijkl"
        taken = [begin(f"{word} 1\n"), *[*typed(word), TAKE] * 100]
        self.assertEqual(last(*taken, TEXT), " ".join([word] * 100))
        rows = [begin("a 1\n"), row([2] * 40), row([2] * 40), row([2] * 20), TEXT]
        self.assertEqual(last(*rows), " ".join(["a"] * 100))

    def test_behind_back(self):
        calls = [begin("a 1\nbd 1\n"), key(2), TAKE, *typed("bd"), TAKE]
        self.assertEqual(run(*calls, TEXT, BACK, TEXT, BACK, BACK, TEXT, BACK, TEXT)[-8:],
                         ["a bd", 2, "a", 1, 0, "a", 1, ""])

    def test_behind_begin(self):
        calls = [begin("a 1\n"), key(2), TAKE]
        self.assertEqual(run(*calls, begin("a 1\n"), TEXT)[-2:], [1, ""])
        self.assertEqual(run(*calls, begin("a 0\n"), TEXT)[-2:], [-1001, "a"])

    def test_behind_learn(self):
        self.assertEqual(last(begin("a 1\n"), key(2), TAKE, learn("a", 9), learn("b", 9), TEXT), "a")

    def test_words_of_row_and_take(self):
        calls = [begin("a 9\nd 9\ng 9\n"), key(3), TAKE, row_of("ga"), key(3), TAKE, TEXT]
        self.assertEqual(last(*calls), "d g a d")


class List(CallsCase):

    def test_no_words(self):
        self.assertEqual(answers([9]), [1, 0])
        self.assertEqual(run(begin(""), LIST, begin("a 1\n"), begin(""), LIST), [0, "", 1, 0, ""])

    def test_how_many_bytes_then_these(self):
        self.assertEqual(answers(begin("b 1\na 20") + [9]),
                         [1, 2, 10, 9, 97, 32, 50, 48, 10, 98, 32, 49, 10])

    def test_greater_counts_first(self):
        self.assertEqual(last(begin("a 9\nb 10\nc 100\nd 99\n"), LIST), "c 100\nd 99\nb 10\na 9\n")

    def test_like_counts_by_their_letters(self):
        told = "b 5\nab 5\nba 5\naa 5\nz 6\na 5\nabc 5\nzz 4\n"
        self.assertEqual(last(begin(told), LIST), "z 6\na 5\naa 5\nab 5\nabc 5\nb 5\nba 5\nzz 4\n")

    def test_counts(self):
        for count in (1, 9, 10, 100, 101, 99999, 100000, 999999, MILLION):
            self.assertEqual(last(begin(f"abc {count}"), LIST), f"abc {count}\n")

    def test_64_words(self):
        words = different_words(64, length=12)
        self.assertEqual(last(begin(lines(reversed(words), MILLION)), LIST), lines(words, MILLION))
        self.assertEqual(last(*[learn(word, 7) for word in reversed(words)], LIST), lines(words, 7))

    def test_counts_that_take_changed(self):
        calls = [begin("a 5\nb 5\nd 5\n"), key(2), NEXT, TAKE]
        self.assertEqual(last(*calls, LIST), "b 6\na 5\nd 5\n")
        self.assertEqual(last(*calls, key(2), NEXT, TAKE, LIST), "a 6\nb 6\nd 5\n")

    def test_counts_that_back_changed(self):
        calls = [begin("a 5\nb 5\n"), key(2), NEXT, TAKE, BACK, LIST]
        self.assertEqual(last(*calls), "a 5\nb 5\n")
        calls = [begin("a 5\nb 5\n"), key(2), TAKE, learn("a", 5), BACK, LIST]
        self.assertEqual(last(*calls), "b 5\na 4\n")

    def test_counts_that_row_changed(self):
        calls = [begin("a 5\nd 5\ng 6\n"), row_of("dad"), LIST]
        self.assertEqual(last(*calls), "d 7\na 6\ng 6\n")

    def test_counts_that_learn_changed(self):
        calls = [begin("a 5\nb 5\n"), learn("b", 7), LIST, learn("c", 6), LIST, learn("b", 1), LIST]
        self.assertEqual(run(*calls)[1:], [1, "b 7\na 5\n", 0, "b 7\nc 6\na 5\n", 1, "c 6\na 5\nb 1\n"])

    def test_keys_and_place_do_not_matter(self):
        self.assertEqual(run(begin("a 5\nb 5\n"), key(2), NEXT, LIST, NEXT, LIST)[3:], ["a 5\nb 5\n", 0, "a 5\nb 5\n"])

    def test_refused_begin_keeps_the_list(self):
        self.assertEqual(run(begin("a 5\n"), begin("b 5\nc"), LIST), [1, -1002, "a 5\n"])

    def test_refused_take_with_a_full_text_keeps_the_counts(self):
        calls = [begin("a 1\nb 1\n"), *[key(2), TAKE] * 100, key(2), NEXT, TAKE, LIST]
        self.assertEqual(run(*calls)[-2:], [-12, "a 101\nb 1\n"])

    def test_told_list_handed_to_begin_gives_the_same_list(self):
        many = [learn(word, 1 + number % 5) for number, word in enumerate(different_words(64, length=12))]
        for calls in (
            [begin("")],
            [begin("b 1\na 20\nc 1000000")],
            [begin("a 5\nb 5\n"), key(2), NEXT, TAKE, row([2, 2, 2])],
            many,
        ):
            told = last(*calls, LIST)
            self.assertEqual(run(*calls, begin(told), LIST)[-2:], [told.count("\n"), told])


if __name__ == "__main__":
    unittest.main()

"""Promise 1: begin."""

import unittest

from tests.helper import (
    MILLION, NEXT, TAKE, CallsCase, begin, different_words, key, last, learn, lines, run, typed,
)


class Sizes(CallsCase):

    def test_no_bytes(self):
        self.assertEqual(run(begin("")), [0])

    def test_some_words(self):
        self.assertEqual(run(begin("the 50\nand 40\nof 30\n")), [3])

    # A right list has at most 64 lines of 21 bytes, 1,344 in all; a longer one is wrong
    # in a line, which tells it from one that has too many bytes.
    def test_bytes_at_and_above_the_most(self):
        for size, answer in ((2047, -1001), (2048, -1001), (2049, -22), (2200, -22)):
            self.assertEqual(run(begin("a" * size)), [answer], size)

    def test_too_many_bytes_come_ahead_of_a_wrong_line(self):
        self.assertEqual(run(begin("\n" * 2049)), [-22])
        self.assertEqual(run(begin("\n" * 2048)), [-1001])

    def test_longest_right_list(self):
        text = lines(different_words(64, length=12), MILLION)
        self.assertEqual(len(text), 1344)
        self.assertEqual(run(begin(text)), [64])

    def test_wrong_line_at_the_end_of_2048_bytes(self):
        text = lines(different_words(63, length=12), 1)
        self.assertEqual(run(begin(text + "z" * (2048 - len(text)))), [-1064])


class Lines(CallsCase):

    def test_last_line_with_and_without_its_end(self):
        self.assertEqual(run(begin("a 1\nb 2")), [2])
        self.assertEqual(run(begin("a 1\nb 2\n")), [2])

    def test_last_count_without_line_end_is_whole(self):
        self.assertEqual(run(begin("a 1000000"), key(2), TAKE), [1, 1, -12])

    def test_empty_lines(self):
        self.assertEqual(run(begin("\n")), [-1001])
        self.assertEqual(run(begin("\na 1")), [-1001])
        self.assertEqual(run(begin("a 1\n\nb 1\n")), [-1002])
        self.assertEqual(run(begin("a 1\n\n")), [-1002])

    def test_counts(self):
        for count in ("1", "9", "10", "999999", "1000000"):
            self.assertEqual(run(begin(f"a {count}\n")), [1], count)
        wrong = (
            "0", "1000001", "9999999", "10000000", "4294967297", "01", "00", "0000001", "01000000",
            "", " 1", "1 ", "1a", "a", "+1", "-1", "1.0", "1_0", "1\t", "1\r", "1,000", "/", ":", "1:", "1/", "\xb2",
        )
        for count in wrong:
            self.assertEqual(run(begin(f"a {count}\n")), [-1001], count)
            self.assertEqual(run(begin(f"a {count}")), [-1001], count)

    def test_word_lengths(self):
        for length, answer in ((0, -1001), (1, 1), (12, 1), (13, -1001)):
            self.assertEqual(run(begin("z" * length + " 1\n")), [answer], length)

    def test_letters(self):
        for number in range(256):
            sign = bytes([number]).decode("latin-1")
            answer = 1 if sign in "abcdefghijklmnopqrstuvwxyz" else -1001
            for word in (sign, "b" + sign, sign + "b"):
                if sign != "\n":
                    self.assertEqual(run(begin(word + " 1")), [answer], word)

    def test_blanks(self):
        for line in ("a", "a1", "a  1", " a 1", "a 1 ", " ", "  ", "a ", " 1", "a b 1", "a\t1", "1 a"):
            self.assertEqual(run(begin(line)), [-1001], line)

    def test_word_that_a_line_before_has(self):
        self.assertEqual(run(begin("a 1\na 1\n")), [-1002])
        self.assertEqual(run(begin("a 1\nb 1\na 2")), [-1003])
        self.assertEqual(run(begin("a 1\nab 1\naa 1\nb 1")), [4])

    def test_word_of_the_list_before_is_no_word_of_a_line_before(self):
        self.assertEqual(run(begin("a 1\n"), begin("b 1\na 1\n")), [1, 2])

    def test_64_lines_and_the_65th(self):
        words = different_words(66)
        self.assertEqual(run(begin(lines(words[:63], 1))), [63])
        self.assertEqual(run(begin(lines(words[:64], 1))), [64])
        self.assertEqual(run(begin(lines(words[:65], 1))), [-1065])
        self.assertEqual(run(begin(lines(words[:66], 1))), [-1065])
        self.assertEqual(run(begin(lines(words[:64], 1) + "\n")), [-1065])

    def test_first_wrong_line_of_several(self):
        self.assertEqual(run(begin("a 1\nb 0\nc\na 1\n")), [-1002])
        self.assertEqual(run(begin("a 1\nb 1\na 1\n\n")), [-1003])
        words = different_words(64)
        self.assertEqual(run(begin(lines(words[:63], 1) + "x 0\ny 1\nz 1\n")), [-1064])


class State(CallsCase):

    def test_refused_begin_leaves_all_as_it_was(self):
        for before in (
            [begin("a 5\nb 5\nc 4\n")],
            [begin("a 5\nb 5\n"), key(2), NEXT],
            [begin("a 5\nb 5\n"), key(2), TAKE, key(2), NEXT],
            [begin("a 5\n")] + [key(2), TAKE] * 99,
        ):
            self.assert_unchanged_by(before, begin("b 1\nzz 1\nx"), -1003)
            self.assert_unchanged_by(before, begin("b 1\n" + "z" * 2045), -22)

    def test_ends_the_list(self):
        self.assertEqual(run(begin("a 1\nb 1\n"), begin("c 1\n"), key(2)), [2, 1, 1])
        self.assertEqual(run(begin("a 1\n"), begin(""), key(2), TAKE), [1, 0, 0, -61])
        self.assertEqual(run(learn("a", 1), begin("b 1\n"), key(2)), [0, 1, 1])

    def test_ends_the_text(self):
        calls = [begin("a 1\n"), key(2), TAKE, key(2), TAKE, begin("a 1\n"), key(2), TAKE]
        self.assertEqual(run(*calls), [1, 1, 1, 1, 2, 1, 1, 1])

    def test_ends_the_keys(self):
        self.assertEqual(run(begin("a 1\n"), key(2), key(2), begin("a 1\n"), key(2)), [1, 1, 0, 1, 1])
        self.assertEqual(run(begin("a 1\n"), key(2), begin("a 1\n"), learn("b", 1)), [1, 1, 1, 0])
        self.assertEqual(run(begin("a 1\n"), key(2), begin("a 1\n"), TAKE), [1, 1, 1, -61])

    def test_ends_the_place(self):
        text = "a 1\nb 1\nc 1\n"
        self.assertEqual(last(begin(text), key(2), NEXT, begin(text), key(2), NEXT), 1)

    def test_counts_are_those_of_the_new_list(self):
        text = "a 999999\n"
        self.assertEqual(run(begin(text), key(2), TAKE, begin(text), key(2), TAKE), [1, 1, 1, 1, 1, 1])

    def test_begin_without_words_before(self):
        self.assertEqual(run(*typed("ab")), [0, 0])


if __name__ == "__main__":
    unittest.main()

"""Promise 8: row."""

import unittest

from tests.helper import (
    BACK, GUESS, LIST, MILLION, NEXT, TAKE, TEXT, CallsCase, begin, different_words, key, last, learn, lines, row,
    row_of, run, typed,
)

NO_KEYS = row([])


def filler(total):
    """Lines of words on the key 9 with counts of this total, each as great as may be."""
    counts = [MILLION] * (total // MILLION) + [total % MILLION] * (total % MILLION > 0)
    words = different_words(len(counts), letters="wxyz", length=3)
    return "".join(f"{word} {count}\n" for word, count in zip(words, counts))


class RowCase(CallsCase):

    def assert_parted(self, told, keys, text):
        """Behind begin with the told list the row is parted so."""
        words = text.split()
        self.assertEqual(run(begin(told), row(keys), TEXT)[1:], [len(words), text])


class NotValid(RowCase):

    def test_forty_keys_and_more(self):
        words = begin("a 1\n")
        self.assertEqual(run(words, row([2] * 39)), [1, 39])
        self.assertEqual(run(words, row([2] * 40)), [1, 40])
        for length in (41, 42, 100):
            self.assertEqual(run(words, row([2] * length)), [1, -22], length)

    def test_no_keys_among_them(self):
        words = begin("a 1\nd 1\n")
        for number in (0, 1, 10, 11, 50, 57, 97, 255):
            for keys in ([number], [number, 2, 3], [2, number, 3], [2, 3, number], [2] * 39 + [number]):
                self.assertEqual(run(words, row(keys)), [2, -22], keys)

    def test_each_key(self):
        for k, letter in zip(range(2, 10), "adgjmptw"):
            self.assert_parted(f"{letter} 1\n", [k], letter)

    def test_without_words(self):
        self.assertEqual(run(row([1]), row([2] * 41), row([10])), [-22, -22, -22])

    def test_refused_changes_nothing(self):
        before = [begin("a 5\nb 5\n"), key(2), NEXT, TAKE]
        for keys in ([1], [2, 2, 10], [2] * 41):
            self.assert_unchanged_by(before, row(keys), -22)
            self.assert_unchanged_by(before + [key(2), NEXT], row(keys), -22)


class KeysWerePressed(RowCase):

    def test_refused(self):
        for keys in ([], [2], [2, 2], [3]):
            self.assertEqual(run(begin("a 5\n"), key(2), row(keys)), [1, 1, -11])
            self.assertEqual(run(begin("a 5\n"), key(9), row(keys)), [1, 0, -11])

    def test_keys_that_back_pressed(self):
        calls = [begin("a 5\n"), row([2, 2]), BACK, row([2]), BACK, row([2]), TEXT]
        self.assertEqual(run(*calls)[1:], [2, 1, -11, 0, 1, "a a"])

    def test_refused_changes_nothing(self):
        before = [begin("a 5\nb 5\n"), key(2), NEXT, TAKE, key(2), NEXT]
        for keys in ([], [2], [2, 2]):
            self.assert_unchanged_by(before, row(keys), -11)


class NotParted(RowCase):

    def test_no_words(self):
        self.assertEqual(run(row([2]), row([2] * 40), begin(""), row([9])), [-33, -33, 0, -33])

    def test_from_its_beginning(self):
        self.assertEqual(last(begin("a 1\n"), row([3, 2, 2])), -33)
        self.assertEqual(last(begin("aa 1\n"), row([2])), -33)

    def test_only_at_its_end(self):
        self.assertEqual(last(begin("a 1\n"), row([2, 2, 3])), -33)
        self.assertEqual(last(begin("aa 1\n"), row([2, 2, 2])), -33)
        self.assertEqual(last(begin("a 1\nad 1\nadg 1\n"), row([2, 3, 4, 2, 3, 4, 4])), -33)
        self.assertEqual(last(begin("a 1\n"), row([2] * 39 + [3])), -33)
        self.assertEqual(last(begin("aa 1\naaa 1\n"), row([2] * 39 + [3])), -33)

    def test_in_its_middle(self):
        self.assertEqual(last(begin("ad 1\ngj 1\nadg 1\n"), row([2, 3, 4, 4, 5])), 2)
        self.assertEqual(last(begin("ad 1\ngj 1\n"), row([2, 3, 4, 4, 5])), -33)

    def test_longest_word_is_not_the_way(self):
        self.assert_parted("ad 1\nadg 1000\ngj 1\n", [2, 3, 4, 5], "ad gj")
        self.assert_parted("adg 1\na 1\ndgj 1\n", [2, 3, 4, 5], "a dgj")

    def test_refused_changes_nothing(self):
        before = [begin("a 5\nb 5\n"), key(2), NEXT, TAKE]
        for keys in ([3], [2, 2, 3], [2, 3, 2]):
            self.assert_unchanged_by(before, row(keys), -33)


class NoRoom(RowCase):

    def test_text_of_a_hundred(self):
        for before in (97, 98, 99, 100):
            taken = [begin("a 1\n"), *[key(2), TAKE] * before]
            for length in (0, 1, 2, 3, 40):
                answer = length if before + length <= 100 else -12
                text = " ".join(["a"] * (before + max(answer, 0)))
                self.assertEqual(run(*taken, row([2] * length), TEXT)[-2:], [answer, text])

    def test_text_of_a_hundred_by_rows_alone(self):
        rows = [begin("a 1\n"), row([2] * 40), row([2] * 40), row([2] * 21), row([2] * 20), row([2]), LIST]
        self.assertEqual(run(*rows)[1:], [40, 40, -12, 20, -12, "a 101\n"])

    def test_words_count_and_not_keys(self):
        taken = [begin("a 1\nabcdefghijkl 1\n"), *[key(2), TAKE] * 99]
        self.assertEqual(last(*taken, row_of("abcdefghijkl")), 1)
        self.assertEqual(last(*taken, row_of("abcdefghijkla")), -12)

    def test_million_by_one_word(self):
        self.assertEqual(run(begin("a 999999\n"), row([2]), LIST, row([2])), [1, 1, "a 1000000\n", -12])
        self.assertEqual(last(begin("a 1000000\n"), row([2])), -12)
        self.assertEqual(last(begin("a 1000000\nd 1\n"), row([2])), -12)

    def test_million_by_the_same_word_several_times(self):
        self.assertEqual(run(begin("a 999998\n"), row([2, 2]), LIST), [1, 2, "a 1000000\n"])
        self.assertEqual(run(begin("a 999999\n"), row([2, 2]), LIST), [1, -12, "a 999999\n"])
        self.assertEqual(run(begin("a 999960\n"), row([2] * 40), LIST), [1, 40, "a 1000000\n"])
        self.assertEqual(run(begin("a 999961\n"), row([2] * 40), LIST), [1, -12, "a 999961\n"])
        calls = [begin("a 999999\nd 999990\n"), row_of("dadda"), LIST]
        self.assertEqual(run(*calls), [2, -12, "a 999999\nd 999990\n"])
        calls = [begin("a 999998\nd 999990\n"), row_of("dadda"), LIST]
        self.assertEqual(run(*calls), [2, 5, "a 1000000\nd 999993\n"])

    def test_million_of_a_word_that_is_not_of_the_way(self):
        self.assertEqual(run(begin("a 5\nd 1000000\n"), row([2])), [2, 1])

    def test_another_way_is_not_looked_for(self):
        self.assertEqual(run(begin("a 1000000\nb 1\n"), row([2]), TEXT), [2, -12, ""])
        taken = [begin("a 50\nd 50\nad 1\n"), *[key(2), TAKE] * 99]
        self.assertEqual(run(*taken, row_of("ad"))[-1], -12)
        self.assertEqual(run(*taken, learn("ad", 100), row_of("ad"), TEXT)[-2:], [1, " ".join(["a"] * 99 + ["ad"])])

    def test_refused_changes_nothing(self):
        self.assert_unchanged_by([begin("d 5\na 1000000\nb 3\n"), key(3), TAKE], row([3, 3, 2]), -12)
        self.assert_unchanged_by([begin("a 999999\nb 3\n")], row([2, 2]), -12)
        full = [begin("a 500\nb 5\n"), *[key(2), TAKE] * 99]
        self.assert_unchanged_by(full, row([2, 2]), -12)


class WhichRefusalFirst(RowCase):

    def test_not_valid_is_first(self):
        for keys in ([1], [2, 10], [2] * 41, [3, 0]):
            self.assertEqual(last(begin("a 5\n"), key(2), row(keys)), -22)
            self.assertEqual(last(begin("a 1000000\n"), row(keys)), -22)
            self.assertEqual(last(begin("a 1\n"), *[key(2), TAKE] * 100, row(keys)), -22)

    def test_pressed_keys_come_before_the_parting(self):
        self.assertEqual(last(begin("a 5\n"), key(2), row([3])), -11)
        self.assertEqual(last(begin("a 1000000\n"), key(2), row([2])), -11)
        self.assertEqual(last(begin("a 1\n"), *[key(2), TAKE] * 100, key(2), row([2])), -11)

    def test_parting_comes_before_room(self):
        self.assertEqual(last(begin("a 1000000\n"), row([2, 3])), -33)
        self.assertEqual(last(begin("a 1\n"), *[key(2), TAKE] * 100, row([2, 3])), -33)


class NoKeys(RowCase):

    def test_it_has_no_words(self):
        self.assertEqual(run(NO_KEYS, TEXT), [0, ""])
        self.assertEqual(run(begin("a 5\n"), NO_KEYS, TEXT, LIST), [1, 0, "", "a 5\n"])
        self.assertEqual(run(begin("a 1000000\n"), NO_KEYS, LIST), [1, 0, "a 1000000\n"])

    def test_text_stays(self):
        calls = [begin("a 5\n"), key(2), TAKE, NO_KEYS, TEXT, LIST]
        self.assertEqual(run(*calls)[3:], [0, "a", "a 6\n"])

    def test_full_text(self):
        calls = [begin("a 1\n"), *[key(2), TAKE] * 100, NO_KEYS]
        self.assertEqual(last(*calls), 0)


class Likeliest(RowCase):

    def test_one_way(self):
        self.assert_parted("good 3\nis 2\nit 1\n", [4, 8, 4, 7, 4, 6, 6, 3], "it is good")

    def test_most_used_of_like_keys(self):
        self.assert_parted("good 3\nhome 4\ngone 2\n", [4, 6, 6, 3] * 2, "home home")

    def test_one_word_against_two(self):
        # 50 / 61 * 1 / 61 is less than 10 / 61, but 50 / 105 * 50 / 105 is more than 5 / 105.
        self.assert_parted("a 50\nd 1\nad 10\n", [2, 3], "ad")
        self.assert_parted("a 50\nd 50\nad 5\n", [2, 3], "a d")

    def test_all_counts_of_the_list_matter(self):
        # 2 / total * 2 / total against 1 / total, with a total of 3, 4 and 5.
        self.assert_parted("a 2\naa 1\n", [2, 2], "a a")
        self.assert_parted("a 2\naa 1\nw 1\n", [2, 2], "aa")
        self.assert_parted("a 2\naa 1\nw 2\n", [2, 2], "aa")

    def test_first_word_is_not_the_likeliest(self):
        self.assert_parted("a 100\nad 10\ndg 1\ng 50\n", [2, 3, 4], "ad g")
        self.assert_parted("ad 100\na 10\ng 1\ndg 50\n", [2, 3, 4], "a dg")

    def test_last_word_is_not_the_likeliest(self):
        self.assert_parted("g 100\nad 2\na 90\ndg 90\n", [2, 3, 4], "a dg")

    def test_likeliest_comes_before_fewer_words(self):
        told = "a 900\nd 900\nad 1\n"
        self.assert_parted(told, [2, 3, 2, 3], "a d a d")

    def test_likeliest_comes_before_the_alphabet(self):
        self.assert_parted("a 5\nb 6\n", [2, 2], "b b")
        self.assert_parted("ad 2\na 2\ng 3\ndg 2\n", [2, 3, 4], "ad g")

    def test_longest_words(self):
        words = ["abcdefghijkl", "mnopqrstuvwx", "yzabcdefghij"]
        self.assertEqual(run(begin(lines(words, 1)), row_of("".join(words)), TEXT), [3, 3, " ".join(words)])


class AsLikely(RowCase):

    def test_fewer_words(self):
        # aa and a a are as likely, since 1 / 4 is 2 / 4 * 2 / 4.
        told = "a 2\naa 1\nw 1\n"
        self.assert_parted(told, [2, 2], "aa")
        self.assert_parted(told, [2, 2, 2, 2], "aa aa")
        self.assert_parted(told, [2, 2, 2], "a aa")

    def test_fewer_words_come_before_the_alphabet(self):
        self.assert_parted("a 2\nba 1\nw 1\n", [2, 2], "ba")

    def test_alphabet(self):
        self.assert_parted("b 1\na 1\nc 1\n", [2, 2, 2], "a a a")
        self.assert_parted("home 3\ngood 3\ngone 3\n", [4, 6, 6, 3], "gone")

    def test_word_that_ends_first(self):
        self.assert_parted("ad 5\na 7\ng 7\ndg 5\n", [2, 3, 4], "a dg")
        self.assert_parted("a 3\nc 3\nab 2\nbc 2\n", [2, 2, 2], "a ab")

    def test_words_are_compared_and_not_their_letters_together(self):
        # Together ad a would be before a ea.
        self.assert_parted("ad 2\na 3\nea 2\n", [2, 3, 2], "a ea")

    def test_longer_word_that_is_before_in_the_alphabet(self):
        self.assert_parted("ad 5\nb 7\ng 7\ndg 5\n", [2, 3, 4], "ad g")

    def test_first_word_in_which_they_differ(self):
        self.assert_parted("ad 5\nb 7\ng 7\ndg 5\nw 9\n", [9, 2, 3, 4, 9], "w ad g w")
        self.assert_parted("ad 5\na 7\ng 7\ndg 5\nw 9\n", [9, 2, 3, 4, 2, 3, 4], "w a dg a dg")

    def test_order_of_the_told_list_does_not_matter(self):
        self.assert_parted("dg 5\ng 7\na 7\nad 5\n", [2, 3, 4], "a dg")
        self.assert_parted("w 1\naa 1\na 2\n", [2, 2, 2], "a aa")


class ExactNumbers(RowCase):

    # x(x-4)(x-5) is by 12 greater than (x-1)(x-2)(x-6): of 10 ** 18 too little for rounded numbers.
    GREATER = (999999, 999995, 999994)
    LESSER = (999998, 999997, 999993)
    KEYS = [2, 3, 4, 5, 6, 7]

    def told(self, words, counts):
        return "".join(f"{word} {count}\n" for word, count in zip(words, counts))

    def test_nearly_as_likely(self):
        for early, late in ((("a", "dg", "jmp"), ("ad", "gj", "mp")), (("ad", "gj", "mp"), ("b", "dg", "jmp"))):
            for likelier, other in ((early, late), (late, early)):
                told = self.told(likelier, self.GREATER) + self.told(other, self.LESSER)
                self.assert_parted(told, self.KEYS, " ".join(likelier))

    def test_just_as_likely(self):
        told = self.told(("ad", "gj", "mp"), self.GREATER) + self.told(("b", "dg", "jmp"), reversed(self.GREATER))
        self.assert_parted(told, self.KEYS, "ad gj mp")
        told = self.told(("ad", "gj", "mp"), self.GREATER) + self.told(("a", "dg", "jmp"), reversed(self.GREATER))
        self.assert_parted(told, self.KEYS, "a dg jmp")

    def test_forty_keys_with_very_many_ways(self):
        # a a and aa are as likely with a total of 49,000,000, for then 7000 * 7000 is 1 * total.
        for total, word, how_many in ((48999999, "a", 40), (49000000, "aa", 20), (49000001, "aa", 20)):
            told = "a 7000\naa 1\n" + filler(total - 7001)
            self.assert_parted(told, [2] * 40, " ".join([word] * how_many))

    def test_forty_keys_that_are_hardly_likely(self):
        # 1 divided by 60 million forty times is so little that rounded numbers lose digits there.
        told = "a 1\nb 2\n" + filler(60 * MILLION)
        self.assert_parted(told, [2] * 40, " ".join(["b"] * 40))
        self.assert_parted("b 1\na 1\n" + filler(60 * MILLION), [2] * 40, " ".join(["a"] * 40))

    def test_forty_keys_with_64_words_of_like_keys(self):
        words = [word for length in range(1, 13) for word in different_words(6, length=length)]
        words = sorted(set(words))[:64]
        rows = [row([2] * 40)] * 20
        self.assertEqual(run(begin(lines(words, 1)), *rows)[1:], [4] * 20)


class Behind(RowCase):

    def test_answer_is_how_many_words_of_the_row(self):
        calls = [begin("a 5\nd 5\n"), key(2), TAKE, row_of("dad"), row_of("a"), TEXT]
        self.assertEqual(run(*calls)[2:], [1, 3, 1, "a d a d a"])

    def test_counts_are_one_more_each_time(self):
        calls = [begin("a 5\nb 4\nd 5\ng 9\n"), row_of("dadda"), LIST]
        self.assertEqual(run(*calls)[1:], [5, "g 9\nd 8\na 7\nb 4\n"])

    def test_counts_count_in_the_next_row(self):
        # a, b of like counts: by the first row a is before b, by learn b is before a.
        calls = [begin("a 5\nb 5\n"), row([2]), learn("b", 6), row([2]), learn("b", 8), row([2]), TEXT]
        self.assertEqual(last(*calls), "a a b")

    def test_counts_stay_within_a_row(self):
        # With a's count grown to 3 by its first time, a a would be likelier than aa.
        calls = [begin("a 2\naa 1\nw 1\n"), row([2, 2, 2, 2, 2]), TEXT]
        self.assertEqual(last(*calls), "a aa aa")

    def test_neither_keys_nor_place(self):
        calls = [begin("a 5\nb 5\n"), row([2, 2]), GUESS, learn("c", 1), key(2), GUESS, NEXT]
        self.assertEqual(run(*calls)[2:], [-61, 0, 3, "a", 1])

    def test_learned_words(self):
        self.assertEqual(run(learn("good", 1), learn("is", 1), row_of("isgood"), TEXT), [0, 0, 2, "is good"])

    def test_words_of_the_list_before_are_gone(self):
        self.assertEqual(run(begin("a 5\n"), begin("d 5\n"), row([2]), row([3])), [1, 1, -33, 1])

    def test_typed_and_taken_behind(self):
        calls = [begin("good 5\nhome 5\n"), row_of("good"), *typed("home"), NEXT, TAKE, TEXT, LIST]
        self.assertEqual(run(*calls)[-3:], [2, "good home", "good 6\nhome 6\n"])


if __name__ == "__main__":
    unittest.main()

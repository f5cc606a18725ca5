"""Calls written shortly, and their answers as one number each."""

import unittest

from wordkeysdesk.typist import answers

NEXT = [3]
TAKE = [4]
MILLION = 1000000

LETTERS_ON_KEYS = {
    2: "abc", 3: "def", 4: "ghi", 5: "jkl", 6: "mno", 7: "pqrs", 8: "tuv", 9: "wxyz",
}


def signs(text):
    return list(text.encode("latin-1"))


def begin(text):
    return [0, len(signs(text))] + signs(text)


def learn(word, count):
    return [1, count, len(signs(word))] + signs(word)


def key(k):
    return [2, k]


def keys_of(word):
    return [k for letter in word for k in LETTERS_ON_KEYS if letter in LETTERS_ON_KEYS[k]]


def typed(word):
    return [key(k) for k in keys_of(word)]


def run(*calls):
    """The answers of calls that each answer one number."""
    handed = [number for call in calls for number in call]
    told = answers(handed)
    numbers = told[1::2]
    if told != [part for number in numbers for part in (1, number)]:
        raise AssertionError(f"not one number for each call: {told}")
    if len(numbers) != len(calls):
        raise AssertionError(f"{len(calls)} calls, {len(numbers)} answers")
    return numbers


def last(*calls):
    return run(*calls)[-1]


def different_words(how_many, letters="abc", length=4):
    """Words of one length, in the alphabet's order; with letters of one key they have like keys."""
    words = []
    for number in range(how_many):
        word = ""
        for place in range(length):
            word = letters[number // len(letters) ** place % len(letters)] + word
        words.append(word)
    return words


def lines(words, count):
    return "".join(f"{word} {count}\n" for word in words)


class CallsCase(unittest.TestCase):

    def assert_taken(self, calls, word, others):
        """The calls end with the take of word, which had the count 999,999 before.

        A word with a count of a million can't be taken: with all others of its
        keys at 1, word is shown first, and only if it was taken it's refused.
        """
        quiet = [learn(other, 1) for other in others]
        self.assertEqual(last(*calls, *quiet, *typed(word), TAKE), -12)

    def assert_unchanged_by(self, before, refused, refusal):
        """The refused call answers refusal, and what comes behind goes on as if it hadn't been."""
        probes = [
            [NEXT, TAKE] + typed("a") + [TAKE] + typed("a") + [NEXT, TAKE],
            [TAKE] + typed("b") + [TAKE],
            [key(2)] * 13,
            [learn("zz", 5), learn("a", 7), TAKE, learn("zz", 5)],
        ]
        self.assertEqual(last(*before, refused), refusal)
        for probe in probes:
            with_it = run(*before, refused, *probe)[len(before) + 1:]
            without_it = run(*before, *probe)[len(before):]
            self.assertEqual(with_it, without_it)

"""Calls written shortly, and their answers as one number or one text each."""

import unittest

from wordkeysdesk.typist import answers

NEXT = [3]
TAKE = [4]
BACK = [5]
GUESS = [6]
TEXT = [8]
LIST = [9]
TELLING = (GUESS, TEXT, LIST)
MILLION = 1000000

LETTERS_ON_KEYS = {
    2: "abc", 3: "def", 4: "ghi", 5: "jkl", 6: "mno", 7: "pqrs", 8: "tuv", 9: "wxyz",
}


def signs(text):
    return list(text.encode("latin-1"))


def begin(text):
    return [0, len(signs(text))] + signs(text)


def learn(word, count):
    return [1, count, len(signs(word))] + signs(word)


def key(k):
    return [2, k]


def row(keys):
    return [7, len(keys)] + list(keys)


def row_of(words):
    return row(keys_of(words))


def keys_of(word):
    return [k for letter in word for k in LETTERS_ON_KEYS if letter in LETTERS_ON_KEYS[k]]


def typed(word):
    return [key(k) for k in keys_of(word)]


def run(*calls):
    """The answers: a number each; of guess, text and list, where not refused, the text that's told."""
    told = answers([number for call in calls for number in call])
    answered = []
    position = 0
    for call in calls:
        numbers = told[position + 1:position + 1 + told[position]]
        position += 1 + told[position]
        answered.append(one_answer(call, numbers))
    if position != len(told):
        raise AssertionError(f"{len(calls)} calls, but more answers: {told}")
    return answered


def one_answer(call, numbers):
    telling = call in TELLING and numbers[0] >= 0
    if len(numbers) != (1 + numbers[0] if telling else 1):
        raise AssertionError(f"call {call} answers {numbers}")
    return bytes(numbers[1:]).decode("latin-1") if telling else numbers[0]


def last(*calls):
    return run(*calls)[-1]


def different_words(how_many, letters="abc", length=4):
    """Words of one length, in the alphabet's order; with letters of one key they have like keys."""
    words = []
    for number in range(how_many):
        word = ""
        for place in range(length):
            word = letters[number // len(letters) ** place % len(letters)] + word
        words.append(word)
    return words


def lines(words, count):
    return "".join(f"{word} {count}\n" for word in words)


class CallsCase(unittest.TestCase):

    def assert_like(self, told, expected, why=""):
        """Tells the first difference alone: to tell all of two long lists takes unittest minutes."""
        for place, (one, other) in enumerate(zip(told, expected)):
            self.assertEqual(one, other, f"at {place} {why}")
        self.assertEqual(len(told), len(expected), why)

    def assert_taken(self, calls, word, others):
        """The calls end with the take of word, which had the count 999,999 before.

        A word with a count of a million can't be taken: with all others of its
        keys at 1, word is shown first, and only if it was taken it's refused.
        """
        quiet = [learn(other, 1) for other in others]
        self.assertEqual(last(*calls, *quiet, *typed(word), TAKE), -12)

    def assert_unchanged_by(self, before, refused, refusal):
        """The refused call answers refusal, and what comes behind goes on as if it hadn't been."""
        probes = [
            [NEXT, TAKE] + typed("a") + [TAKE] + typed("a") + [NEXT, TAKE],
            [TAKE] + typed("b") + [TAKE],
            [key(2)] * 13,
            [learn("zz", 5), learn("a", 7), TAKE, learn("zz", 5)],
            [GUESS, TEXT, LIST, NEXT, GUESS, NEXT, GUESS, TEXT, LIST],
            [TAKE, TEXT, LIST, BACK, GUESS, LIST],
            [key(2), GUESS, BACK, GUESS] + [BACK] * 14 + [GUESS, TEXT, LIST],
            [row([2, 2]), TEXT, LIST],
        ]
        self.assertEqual(last(*before, refused), refusal)
        for probe in probes:
            with_it = run(*before, refused, *probe)[len(before) + 1:]
            without_it = run(*before, *probe)[len(before):]
            self.assertEqual(with_it, without_it)

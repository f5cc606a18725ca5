"""All ten calls mixed: the answers are those of a typist that is slow and follows the document word by word."""

import random
import re
import unittest
from fractions import Fraction

from tests.helper import (
    BACK, GUESS, LIST, MILLION, NEXT, TAKE, TEXT, CallsCase, begin, different_words, key, keys_of, learn, lines, row,
    run,
)

WORDS = ("a", "b", "c", "d", "e", "g", "aa", "ab", "ba", "ad", "bd", "da", "ea", "dg", "gd", "aad", "bbd", "dga", "abc")


class SlowTypist:

    def __init__(self):
        self.counts, self.text, self.pressed, self.place = {}, [], [], 0

    def ordered(self):
        return sorted(sorted(self.counts), key=lambda word: self.counts[word], reverse=True)

    def meant(self):
        return [word for word in self.ordered() if keys_of(word) == self.pressed]

    def begin(self, told):
        if len(told) > 2048:
            return -22
        counts = {}
        for number, line in enumerate(re.findall(r"[^\n]*\n|[^\n]+", told), start=1):
            parts = re.fullmatch(r"([a-z]{1,12}) ([1-9][0-9]*)\n?", line)
            if not parts or int(parts[2]) > MILLION or parts[1] in counts or number > 64:
                return -1000 - number
            counts[parts[1]] = int(parts[2])
        self.counts, self.text, self.pressed, self.place = counts, [], [], 0
        return len(counts)

    def learn(self, word, count):
        if not re.fullmatch("[a-z]{1,12}", word) or not 1 <= count <= MILLION:
            return -22
        if self.pressed:
            return -11
        known = word in self.counts
        if not known and len(self.counts) == 64:
            return -12
        self.counts[word] = count
        return int(known)

    def key(self, k):
        if k not in range(2, 10):
            return -22
        if len(self.pressed) == 12:
            return -12
        self.pressed, self.place = self.pressed + [k], 0
        return len(self.meant())

    def next(self):
        if not self.meant():
            return -61
        self.place = self.place + 1 if self.place + 1 < len(self.meant()) else 0
        return self.place

    def take(self):
        if not self.meant():
            return -61
        word = self.meant()[self.place]
        if len(self.text) == 100 or self.counts[word] == MILLION:
            return -12
        self.text.append(word)
        self.counts[word] += 1
        self.pressed, self.place = [], 0
        return len(self.text)

    def back(self):
        if self.pressed:
            self.pressed, self.place = self.pressed[:-1], 0
            return len(self.pressed)
        if not self.text:
            return -2
        word = self.text.pop()
        if self.counts[word] > 1:
            self.counts[word] -= 1
        self.pressed = keys_of(word)
        self.place = self.meant().index(word)
        return len(self.pressed)

    def guess(self):
        return self.meant()[self.place] if self.meant() else -61

    def ways(self, keys):
        if not keys:
            return [[]]
        firsts = [word for word in self.counts if keys_of(word) == keys[:len(word)]]
        return [[word] + rest for word in firsts for rest in self.ways(keys[len(word):])]

    def better_first(self, way):
        likely = Fraction(1)
        for word in way:
            likely *= Fraction(self.counts[word], sum(self.counts.values()))
        return -likely, len(way), way

    def row(self, keys):
        if len(keys) > 40 or not set(keys) <= set(range(2, 10)):
            return -22
        if self.pressed:
            return -11
        ways = self.ways(keys)
        if not ways:
            return -33
        words = min(ways, key=self.better_first)
        counts = dict(self.counts)
        for word in words:
            counts[word] += 1
        if len(self.text) + len(words) > 100 or max(counts.values(), default=0) > MILLION:
            return -12
        self.counts = counts
        self.text += words
        return len(words)

    def tell_text(self):
        return " ".join(self.text)

    def tell_list(self):
        return "".join(f"{word} {self.counts[word]}\n" for word in self.ordered())


def mixed_list(chance):
    words = chance.sample(WORDS, chance.randrange(len(WORDS)))
    high = chance.choice((3, 3, MILLION))
    told = "".join(f"{word} {max(high - chance.randrange(6), 1)}\n" for word in words)
    return told + chance.choice(("", "", "", "", "g", "g 01\n", "\n", "gg 7"))


def mixed_call(chance, slow):
    """A call, and what the slow typist answers to it."""
    plain = (
        (NEXT, slow.next), (TAKE, slow.take), (TAKE, slow.take), (BACK, slow.back), (BACK, slow.back),
        (GUESS, slow.guess), (TEXT, slow.tell_text), (LIST, slow.tell_list),
    )
    number = chance.randrange(100)
    if number < 3:
        told = mixed_list(chance)
        return begin(told), slow.begin(told)
    if number < 12:
        word = chance.choice(WORDS + ("", "aA"))
        count = chance.choice((0, 1, 2, 3, 4, MILLION - 1, MILLION, MILLION + 1))
        return learn(word, count), slow.learn(word, count)
    if number < 30:
        k = chance.choice((2, 2, 2, 3, 3, 4, 9, 1, 10))
        return key(k), slow.key(k)
    if number < 45:
        keys = [chance.choice((2, 2, 3, 4)) for _ in range(chance.randrange(6))]
        keys += chance.choice(([], [], [], [], [1], [2, 255], [2] * 41))
        return row(keys), slow.row(keys)
    call, slow_answer = chance.choice(plain)
    return call, slow_answer()


class MixedCalls(CallsCase):

    def assert_like_the_slow_one(self, seed, how_many):
        chance = random.Random(seed)
        slow = SlowTypist()
        told = mixed_list(chance)
        calls, expected = [begin(told)], [slow.begin(told)]
        for _ in range(how_many):
            call, answer = mixed_call(chance, slow)
            calls += [call, TEXT, LIST, GUESS]
            expected += [answer, slow.tell_text(), slow.tell_list(), slow.guess()]
        self.assert_like(run(*calls), expected, f"of seed {seed}")

    def test_many_short_lines(self):
        for seed in range(200):
            self.assert_like_the_slow_one(seed, 40)

    def test_some_long_lines(self):
        for seed in range(1000, 1006):
            self.assert_like_the_slow_one(seed, 500)

    def test_rows_alone(self):
        for seed in range(200):
            chance = random.Random(seed)
            slow = SlowTypist()
            words = chance.sample(WORDS, chance.randrange(4, 12))
            told = "".join(f"{word} {chance.randrange(1, 5)}\n" for word in words)
            slow.begin(told)
            rows = [[chance.choice((2, 2, 3, 4)) for _ in range(chance.randrange(8))] for _ in range(5)]
            answers = [answer for keys in rows for answer in (slow.row(keys), slow.tell_text())]
            calls = [call for keys in rows for call in (row(keys), TEXT)]
            self.assertEqual(run(begin(told), *calls)[1:], answers, told)

    def test_full_list_and_full_text(self):
        words = different_words(64)
        slow = SlowTypist()
        told = lines(words, 2)
        calls, expected = [begin(told)], [slow.begin(told)]
        for number in range(101):
            presses = [2, 2, 2, 2]
            calls += [key(k) for k in presses] + [NEXT] * (number % 7) + [GUESS, TAKE]
            expected += [slow.key(k) for k in presses] + [slow.next() for _ in range(number % 7)]
            expected += [slow.guess(), slow.take()]
        calls += [TEXT, LIST, BACK]
        expected += [slow.tell_text(), slow.tell_list(), slow.back()]
        self.assert_like(run(*calls), expected)


if __name__ == "__main__":
    unittest.main()

"""What holds, whatever was called before: looked at within the typist, over many mixed calls."""

import copy
import random
import unittest

from tests.helper import MILLION, keys_of, lines, signs
from wordkeysdesk.desk import Desk

# On few keys, so that many words have like keys.
WORDS = [a + b + c for a in ("", "a", "b", "c") for b in ("", "a", "d", "e") for c in "abcdg"]
COUNTS = (1, 2, 2, 3, 3, 3, 999998, 999999, MILLION, MILLION + 1, 0)


def in_order(counts):
    by_letters = sorted(bytes(word).decode() for word in counts)
    return sorted(by_letters, key=lambda word: counts[tuple(signs(word))], reverse=True)


def mixed_call(desk, chance):
    """A call made on the desk: its name and its answer."""
    name = chance.choice(("key", "key", "key", "key", "next", "next", "take", "take", "learn", "learn", "begin"))
    if name == "key":
        return name, desk.press_key(chance.choice((2, 2, 2, 3, 4, 10)))
    if name == "next":
        return name, desk.show_next()
    if name == "take":
        return name, desk.take()
    if name == "learn":
        return name, desk.learn(chance.choice(COUNTS), signs(chance.choice(WORDS)))
    if chance.random() < 0.9:
        return name, desk.begin(signs("a 1\nb"))
    words = chance.sample(sorted(set(WORDS)), chance.randrange(66))
    return name, desk.begin(signs(lines(words, chance.choice(COUNTS))))


def state(desk):
    return copy.deepcopy(vars(desk))


class WhatHolds(unittest.TestCase):

    def walk(self, look):
        """Look at the desk before and after each of many calls."""
        for seed in range(10):
            chance = random.Random(seed)
            desk = Desk()
            desk.begin(signs(lines(chance.sample(sorted(set(WORDS)), 40), 3)))
            for _ in range(400):
                before = state(desk)
                name, answer = mixed_call(desk, chance)
                look(desk, before, name, answer)

    def test_what_is_refused_changes_nothing(self):
        refused = {}

        def look(desk, before, name, answer):
            if answer < 0:
                refused[name, answer] = True
                self.assertEqual(state(desk), before)

        self.walk(look)
        for seen in (("begin", -1002), ("learn", -22), ("learn", -11), ("key", -22), ("key", -12),
                     ("next", -61), ("take", -61), ("take", -12)):
            self.assertIn(seen, refused)

    def test_refused_take_with_a_full_text_changes_nothing(self):
        desk = Desk()
        desk.begin(signs("a 1\nb 1\n"))
        for _ in range(100):
            desk.press_key(2)
            desk.take()
        desk.press_key(2)
        desk.show_next()
        before = state(desk)
        self.assertEqual(desk.take(), -12)
        self.assertEqual(state(desk), before)

    def test_every_word_of_the_list_can_be_typed(self):
        def look(desk, before, name, answer):
            if answer < 0 or name not in ("take", "begin"):
                return
            order = in_order(desk.counts)
            for word in order[::7]:
                typist = copy.deepcopy(desk)
                typist.text = []
                for k in keys_of(word):
                    typist.press_key(k)
                like = [other for other in order if keys_of(other) == keys_of(word)]
                for _ in range(like.index(word)):
                    typist.show_next()
                if typist.counts[tuple(signs(word))] < MILLION:
                    self.assertEqual(typist.take(), 1)
                    self.assertEqual(typist.text, [tuple(signs(word))])

        self.walk(look)

    def test_what_is_taken_is_never_behind_words_that_were_behind_it(self):
        def look(desk, before, name, answer):
            if name == "take" and answer > 0:
                taken = bytes(desk.text[-1]).decode()
                order = in_order(before["counts"])
                later = in_order(desk.counts)
                behind = order[order.index(taken):]
                self.assertTrue(set(behind) <= set(later[later.index(taken):]))

        self.walk(look)

    def test_next_as_often_as_words_are_meant_shows_the_same_again(self):
        def look(desk, before, name, answer):
            if name == "key" and answer > 0:
                same = copy.deepcopy(desk)
                for _ in range(answer):
                    same.show_next()
                self.assertEqual(state(same), state(desk))

        self.walk(look)

    def test_take_adds_the_word_and_one_to_its_count_alone(self):
        def look(desk, before, name, answer):
            if name == "take" and answer > 0:
                word = desk.text[-1]
                counts = dict(before["counts"])
                counts[word] += 1
                self.assertEqual(desk.text, before["text"] + [word])
                self.assertEqual((desk.counts, desk.pressed, desk.place), (counts, [], 0))
                self.assertEqual(keys_of(bytes(word).decode()), before["pressed"])

        self.walk(look)


if __name__ == "__main__":
    unittest.main()

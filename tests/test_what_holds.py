"""What holds, whatever was called before: looked at within the typist, over many mixed calls."""

import copy
import random
import unittest

from tests.helper import MILLION, keys_of, lines, signs
from wordkeysdesk.desk import Desk

# On few keys, so that many words have like keys.
WORDS = [a + b + c for a in ("", "a", "b", "c") for b in ("", "a", "d", "e") for c in "abcdg"]
COUNTS = (1, 2, 2, 3, 3, 3, 999998, 999999, MILLION, MILLION + 1, 0)
NAMES = (
    ["key"] * 8 + ["next"] * 4 + ["take"] * 5 + ["learn"] * 4 + ["begin"] * 2 + ["back"] * 5 + ["row"] * 4
    + ["guess", "text", "list"]
)


def in_order(counts):
    by_letters = sorted(bytes(word).decode() for word in counts)
    return sorted(by_letters, key=lambda word: counts[tuple(signs(word))], reverse=True)


def mixed_call(desk, chance):
    """A call made on the desk: its name and the number that's answered first."""
    name = chance.choice(NAMES)
    if name == "key":
        return name, desk.press_key(chance.choice((2, 2, 2, 3, 4, 10)))
    if name == "learn":
        return name, desk.learn(chance.choice(COUNTS), signs(chance.choice(WORDS)))
    if name == "row":
        return name, desk.part_row(mixed_row(chance))
    if name == "begin":
        return name, desk.begin(mixed_list(chance))
    plain = {
        "next": desk.show_next, "take": desk.take, "back": desk.go_back,
        "guess": lambda: desk.guess()[0], "text": lambda: desk.tell_text()[0], "list": lambda: desk.tell_list()[0],
    }
    return name, plain[name]()


def mixed_row(chance):
    if chance.random() < 0.1:
        return [2] * chance.choice((40, 41))
    return [chance.choice((2, 2, 2, 2, 3, 4)) for _ in range(chance.randrange(9))] + [1] * (chance.random() < 0.1)


def mixed_list(chance):
    if chance.random() < 0.9:
        return signs("a 1\nb")
    words = chance.sample(sorted(set(WORDS)), chance.randrange(66))
    return signs(lines(words, chance.choice(COUNTS)))


def state(desk):
    return copy.deepcopy(vars(desk))


class WhatHolds(unittest.TestCase):

    def walk(self, look):
        """Look at the desk before and after each of many calls."""
        for seed in range(10):
            chance = random.Random(seed)
            desk = Desk()
            desk.begin(signs(lines(chance.sample(sorted(set(WORDS)), 40), 3)))
            for _ in range(400):
                before = state(desk)
                name, answer = mixed_call(desk, chance)
                look(desk, before, name, answer)

    def test_what_is_refused_changes_nothing(self):
        refused = {}

        def look(desk, before, name, answer):
            if answer < 0:
                refused[name, answer] = True
                self.assertEqual(state(desk), before)

        self.walk(look)
        for seen in (("begin", -1002), ("learn", -22), ("learn", -11), ("key", -22), ("key", -12),
                     ("next", -61), ("take", -61), ("take", -12), ("back", -2), ("guess", -61),
                     ("row", -22), ("row", -11), ("row", -33), ("row", -12)):
            self.assertIn(seen, refused)

    def test_refused_take_with_a_full_text_changes_nothing(self):
        desk = Desk()
        desk.begin(signs("a 1\nb 1\n"))
        for _ in range(100):
            desk.press_key(2)
            desk.take()
        desk.press_key(2)
        desk.show_next()
        before = state(desk)
        self.assertEqual(desk.take(), -12)
        self.assertEqual(state(desk), before)

    def test_every_word_of_the_list_can_be_typed(self):
        def look(desk, before, name, answer):
            if answer < 0 or name not in ("take", "begin", "row") or desk.pressed:
                return
            order = in_order(desk.counts)
            for word in order[::7]:
                typist = copy.deepcopy(desk)
                typist.text = []
                for k in keys_of(word):
                    typist.press_key(k)
                like = [other for other in order if keys_of(other) == keys_of(word)]
                for _ in range(like.index(word)):
                    typist.show_next()
                self.assertEqual(typist.guess(), [len(word), *signs(word)])
                if typist.counts[tuple(signs(word))] < MILLION:
                    self.assertEqual(typist.take(), 1)
                    self.assertEqual(typist.text, [tuple(signs(word))])

        self.walk(look)

    def test_what_is_taken_is_never_behind_words_that_were_behind_it(self):
        def look(desk, before, name, answer):
            if name == "take" and answer > 0:
                taken = bytes(desk.text[-1]).decode()
                order = in_order(before["counts"])
                later = in_order(desk.counts)
                behind = order[order.index(taken):]
                self.assertTrue(set(behind) <= set(later[later.index(taken):]))

        self.walk(look)

    def test_next_as_often_as_words_are_meant_shows_the_same_again(self):
        def look(desk, before, name, answer):
            meant = len(desk.meant())
            if name in ("key", "next", "back") and meant > 0:
                same = copy.deepcopy(desk)
                for _ in range(meant):
                    same.show_next()
                self.assertEqual(state(same), state(desk))

        self.walk(look)

    def test_taken_and_taken_back_it_is_as_it_was(self):
        def look(desk, before, name, answer):
            if name == "take" and answer > 0:
                typist = copy.deepcopy(desk)
                self.assertEqual(typist.go_back(), len(before["pressed"]))
                self.assertEqual(state(typist), before)

        self.walk(look)

    def test_row_taken_back_word_by_word_it_is_as_it_was(self):
        def look(desk, before, name, answer):
            if name == "row" and answer >= 0:
                typist = copy.deepcopy(desk)
                for _ in range(answer):
                    for _ in range(typist.go_back()):
                        typist.go_back()
                self.assertEqual(state(typist), before)

        self.walk(look)

    def test_word_that_is_taken_back_is_shown(self):
        def look(desk, before, name, answer):
            if name == "back" and answer > 0 and not before["pressed"]:
                gone = before["text"][-1]
                self.assertEqual(desk.text, before["text"][:-1])
                self.assertEqual(desk.guess(), [len(gone), *gone])
                self.assertEqual(desk.counts, before["counts"] | {gone: max(before["counts"][gone] - 1, 1)})

        self.walk(look)

    def test_asking_changes_nothing(self):
        def look(desk, before, name, answer):
            if name in ("guess", "text", "list"):
                self.assertEqual(state(desk), before)

        self.walk(look)

    def test_take_adds_the_word_and_one_to_its_count_alone(self):
        def look(desk, before, name, answer):
            if name == "take" and answer > 0:
                word = desk.text[-1]
                counts = dict(before["counts"])
                counts[word] += 1
                self.assertEqual(desk.text, before["text"] + [word])
                self.assertEqual((desk.counts, desk.pressed, desk.place), (counts, [], 0))
                self.assertEqual(keys_of(bytes(word).decode()), before["pressed"])

        self.walk(look)


if __name__ == "__main__":
    unittest.main()

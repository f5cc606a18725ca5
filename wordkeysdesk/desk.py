"""The typist: its list of words, the text so far, the pressed keys and the place."""

from wordkeysdesk.ways import likeliest_way
from wordkeysdesk.words import MOST_COUNT, MOST_WORDS
from wordkeysdesk.words import add_line, in_order, is_count, is_word, keys_of, lines_of, write_list, write_text

FIRST_KEY = 2
LAST_KEY = 9

MOST_LIST_BYTES = 2048
MOST_KEYS = 12
MOST_ROW_KEYS = 40
MOST_TEXT_WORDS = 100

NO_TEXT = -2
KEYS_ARE_PRESSED = -11
NO_ROOM = -12
NOT_VALID = -22
NO_WAY = -33
NO_WORD = -61
WRONG_LINE = -1000


def is_key(number):
    return FIRST_KEY <= number <= LAST_KEY


def with_length(signs):
    return [len(signs)] + list(signs)


class Desk:

    def __init__(self):
        self.counts = {}
        self.text = []
        self.pressed = []
        self.place = 0

    def meant(self):
        words = [word for word in self.counts if keys_of(word) == self.pressed]
        return in_order(words, self.counts)

    def shown(self):
        meant = self.meant()
        # While any word is meant the place is among them: the list doesn't change
        # while keys are pressed, and each change of the keys sets the place anew.
        return meant[self.place] if len(meant) > 0 else None

    def begin(self, signs):
        if len(signs) > MOST_LIST_BYTES:
            return NOT_VALID
        # Read apart from the list in use, which a wrong line must leave as it was.
        counts = {}
        for number, line in enumerate(lines_of(signs), start=1):
            if not add_line(line, counts):
                return WRONG_LINE - number
        self.counts = counts
        self.text = []
        self.drop_keys()
        return len(counts)

    def learn(self, count, signs):
        if not is_word(signs) or not is_count(count):
            return NOT_VALID
        if len(self.pressed) > 0:
            return KEYS_ARE_PRESSED
        word = tuple(signs)
        if word in self.counts:
            self.counts[word] = count
            return 1
        if len(self.counts) == MOST_WORDS:
            return NO_ROOM
        self.counts[word] = count
        return 0

    def press_key(self, key):
        if not is_key(key):
            return NOT_VALID
        if len(self.pressed) == MOST_KEYS:
            return NO_ROOM
        self.pressed.append(key)
        self.place = 0
        return len(self.meant())

    def show_next(self):
        how_many = len(self.meant())
        if how_many == 0:
            return NO_WORD
        self.place = (self.place + 1) % how_many
        return self.place

    def take(self):
        word = self.shown()
        if word is None:
            return NO_WORD
        if not self.has_room_for((word,)):
            return NO_ROOM
        self.add_to_text((word,))
        self.drop_keys()
        return len(self.text)

    def go_back(self):
        if len(self.pressed) > 0:
            self.pressed.pop()
            self.place = 0
            return len(self.pressed)
        if len(self.text) == 0:
            return NO_TEXT
        word = self.text.pop()
        self.counts[word] = max(self.counts[word] - 1, 1)
        self.pressed = keys_of(word)
        self.place = self.meant().index(word)
        return len(self.pressed)

    def guess(self):
        word = self.shown()
        return [NO_WORD] if word is None else with_length(word)

    def part_row(self, row):
        if len(row) > MOST_ROW_KEYS or not all([is_key(key) for key in row]):
            return NOT_VALID
        if len(self.pressed) > 0:
            return KEYS_ARE_PRESSED
        words = likeliest_way(row, self.counts)
        if words is None:
            return NO_WAY
        if not self.has_room_for(words):
            return NO_ROOM
        self.add_to_text(words)
        return len(words)

    def tell_text(self):
        return with_length(write_text(self.text))

    def tell_list(self):
        return with_length(write_list(self.counts))

    def has_room_for(self, words):
        if len(self.text) + len(words) > MOST_TEXT_WORDS:
            return False
        return all([self.counts[word] + words.count(word) <= MOST_COUNT for word in words])

    def add_to_text(self, words):
        for word in words:
            self.text.append(word)
            self.counts[word] += 1

    def drop_keys(self):
        self.pressed = []
        self.place = 0

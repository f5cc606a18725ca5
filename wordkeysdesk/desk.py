"""The typist: its list of words, the text so far, the pressed keys and the place."""

from wordkeysdesk.words import MOST_COUNT, MOST_WORDS
from wordkeysdesk.words import add_line, in_order, is_count, is_word, keys_of, lines_of

FIRST_KEY = 2
LAST_KEY = 9

MOST_LIST_BYTES = 2048
MOST_KEYS = 12
MOST_TEXT_WORDS = 100

KEYS_ARE_PRESSED = -11
NO_ROOM = -12
NOT_VALID = -22
NO_WORD = -61
WRONG_LINE = -1000


class Desk:

    def __init__(self):
        self.counts = {}
        self.text = []
        self.pressed = []
        self.place = 0

    def meant(self):
        words = [word for word in self.counts if keys_of(word) == self.pressed]
        return in_order(words, self.counts)

    def begin(self, signs):
        if len(signs) > MOST_LIST_BYTES:
            return NOT_VALID
        # Read apart from the list in use, which a wrong line must leave as it was.
        counts = {}
        for number, line in enumerate(lines_of(signs), start=1):
            if not add_line(line, counts):
                return WRONG_LINE - number
        self.counts = counts
        self.text = []
        self.drop_keys()
        return len(counts)

    def learn(self, count, signs):
        if not is_word(signs) or not is_count(count):
            return NOT_VALID
        if len(self.pressed) > 0:
            return KEYS_ARE_PRESSED
        word = tuple(signs)
        if word in self.counts:
            self.counts[word] = count
            return 1
        if len(self.counts) == MOST_WORDS:
            return NO_ROOM
        self.counts[word] = count
        return 0

    def press_key(self, key):
        if not FIRST_KEY <= key <= LAST_KEY:
            return NOT_VALID
        if len(self.pressed) == MOST_KEYS:
            return NO_ROOM
        self.pressed.append(key)
        self.place = 0
        return len(self.meant())

    def show_next(self):
        how_many = len(self.meant())
        if how_many == 0:
            return NO_WORD
        self.place = (self.place + 1) % how_many
        return self.place

    def take(self):
        meant = self.meant()
        # While any word is meant the place is among them: keys alone change
        # which ones are meant, and each key sets the place to 0.
        if len(meant) == 0:
            return NO_WORD
        word = meant[self.place]
        if len(self.text) == MOST_TEXT_WORDS or self.counts[word] == MOST_COUNT:
            return NO_ROOM
        self.text.append(word)
        self.counts[word] += 1
        self.drop_keys()
        return len(self.text)

    def drop_keys(self):
        self.pressed = []
        self.place = 0

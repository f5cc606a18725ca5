"""Words, the keys that they lie on, and lists of words told in text.

A word is a tuple of its letters' bytes, so that comparing two words compares
them as in the alphabet, one that ends first before the longer one. A list of
words is a dict from each word to its count.
"""

LINE_END = 10
BLANK = 32
DIGIT_ZERO = 48
LETTER_A = 97

MOST_LETTERS = 12
MOST_COUNT = 1000000
MOST_COUNT_DIGITS = 7
MOST_WORDS = 64

# The keys of the letters from a to z, in the alphabet's order.
LETTER_KEYS = (2, 2, 2, 3, 3, 3, 4, 4, 4, 5, 5, 5, 6, 6, 6, 7, 7, 7, 7, 8, 8, 8, 9, 9, 9, 9)


def is_letter(sign):
    return LETTER_A <= sign < LETTER_A + len(LETTER_KEYS)


def is_digit(sign):
    return DIGIT_ZERO <= sign < DIGIT_ZERO + 10


def is_word(signs):
    return 1 <= len(signs) <= MOST_LETTERS and all([is_letter(sign) for sign in signs])


def is_count(number):
    return 1 <= number <= MOST_COUNT


def keys_of(word):
    return [LETTER_KEYS[letter - LETTER_A] for letter in word]


def in_order(words, counts):
    return sorted(words, key=lambda word: (-counts[word], word))


def lines_of(signs):
    lines = []
    line = []
    for sign in signs:
        if sign == LINE_END:
            lines.append(line)
            line = []
        else:
            line.append(sign)
    if len(line) > 0:
        lines.append(line)
    return lines


# Answers 0, which is never a count, where the digits don't tell one.
def read_count(digits):
    if not 1 <= len(digits) <= MOST_COUNT_DIGITS:
        return 0
    if digits[0] == DIGIT_ZERO or not all([is_digit(digit) for digit in digits]):
        return 0
    number = 0
    for digit in digits:
        number = number * 10 + digit - DIGIT_ZERO
    return number if is_count(number) else 0


# Answers whether the line is right; one that is wrong leaves counts as it was.
def add_line(line, counts):
    if len(counts) == MOST_WORDS or BLANK not in line:
        return False
    blank = line.index(BLANK)
    word = tuple(line[:blank])
    count = read_count(line[blank + 1:])
    if not is_word(word) or word in counts or count == 0:
        return False
    counts[word] = count
    return True


def write_text(words):
    signs = []
    for word in words:
        if len(signs) > 0:
            signs.append(BLANK)
        signs.extend(word)
    return signs


def write_list(counts):
    signs = []
    for word in in_order(list(counts), counts):
        signs.extend(word)
        signs.append(BLANK)
        signs.extend([ord(digit) for digit in str(counts[word])])
        signs.append(LINE_END)
    return signs

"""The likeliest way to part a row of keys into words of a list.

How likely a way is, is a product of fractions, one for each word: its count
divided by the total of all counts. Ways to part the same keys are compared by
that product multiplied by the total once for each key: this is a whole number,
their weight, so the comparing is exact.

A way is a tuple: its weight with a minus, how many words it has, and these. So
of two ways for the same keys the better one is the smaller tuple.
"""

from wordkeysdesk.words import keys_of

WAY_OF_NO_WORDS = (-1, 0, ())


def weight_of(word, count, total):
    weight = count
    # The word's own fraction takes up one total; each further key brings one in.
    for letter in word[1:]:
        weight *= total
    return weight


# Keys and weights are the same all along a row, so they're worked out once for it.
def weighted(counts):
    total = sum(counts.values())
    return [(word, keys_of(word), weight_of(word, counts[word], total)) for word in counts]


def with_first_word(word, weight, rest):
    return (rest[0] * weight, rest[1] + 1, (word,) + rest[2])


# Answers the way's words, or None where the row can't be parted.
def likeliest_way(row, counts):
    choices = weighted(counts)
    # The best way of each end of the row, by where that end begins. Whatever word
    # stands before it, the best way of an end is part of the best way with that word.
    best = {len(row): WAY_OF_NO_WORDS}
    for start in range(len(row) - 1, -1, -1):
        ways = []
        for word, keys, weight in choices:
            end = start + len(keys)
            if end in best and row[start:end] == keys:
                ways.append(with_first_word(word, weight, best[end]))
        if len(ways) > 0:
            best[start] = min(ways)
    return best[0][2] if 0 in best else None

"""Wide makers for the tests of graphs and signed rows."""

import random

from quadwords.wide import reduced, wide_table

ONE = (1, 0, 0, 1)
GREAT = 10 ** 200 - 1
# Each of these, anywhere in a list, keeps it from being one of wide makers.
BAD_MAKERS = [(0, 0, 0, 0), (1, 1, 0, 1), (1, 0, 1, 1), (-1, 0, 0, -1), (3, 2, 4, 3), (1, 2, 2, 1), (2, 1, 1, 1),
              (1, 22, 0, 1), (1, 0, -22, 1), wide_table("uvUVuvUVuvU"), wide_table("v" * 400), (1, GREAT - 1, 0, 1),
              (1, 0, 1 - GREAT, 1), (1, GREAT, 0, 1), (1, 802, 0, 1)]
NO_MAKERS = [None, True, 1, "u", "", (), (ONE,), ONE, [None], ["u"], [[1, 0, 0, 1]], [ONE, (1, 0, 0)],
             [ONE, (True, 0, 0, True)], [[ONE]]]


def tables_of(words):
    return [wide_table(word) for word in words]


def turned(word):
    """The back of a word."""
    return word[::-1].swapcase()


def any_word(chance, least, most):
    return reduced("".join(chance.choice("uvUV") for place in range(chance.randint(least, most))))


def some_words(seed, many):
    """Lists of reduced words of at most ten letters; some alike, some empty, some made of others, and some free."""
    chance = random.Random(seed)
    told = []
    for each in range(many):
        most = chance.randint(1, 10)
        words = [any_word(chance, 0, most) for number in range(chance.randint(1, 7))]
        both = reduced(chance.choice(words) + turned(chance.choice(words)))
        told.append(words + [both] if len(both) <= 10 else words)
        if each % 2:
            told[-1] = [any_word(chance, 4, 10) for number in range(chance.randint(1, 4))]
    return told


def words_of_ten(chance):
    """Eight reduced words of ten letters."""
    words = []
    while len(words) < 8:
        word = any_word(chance, 10, 30)
        words += [word[:10]] if len(word) >= 10 else []
    return words

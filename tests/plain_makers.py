"""Plain makers for the tests, and what isn't one of them."""

import itertools
import random

from quadwords.plain import table_of

ONE = (1, 0, 0, 1)
GREAT = 10 ** 200 - 1
# Each of these, anywhere in a list, keeps it from being one of makers.
BAD_PLAIN = [ONE, (0, 0, 0, 0), (1, -1, 0, 1), (1, 0, -1, 1), (-1, 0, 0, -1), (0, 1, -1, 0), (2, 0, 0, 1), (1, 1, 1, 1),
             (1, 41, 0, 1), (1, 0, 41, 1), table_of(("lrr" * 14)[:41]), table_of("l" * 400), (1, 401, 0, 1),
             (1, GREAT, 0, 1), (1, 0, GREAT, 1), (GREAT, 0, 0, GREAT)]
NO_PLAIN_MAKERS = [None, True, 1, "l", "", (), (table_of("l"),), table_of("l"), [None], ["l"], [[1, 0, 1, 1]],
                   [table_of("l"), (1, 0, 1)], [table_of("l"), (True, 0, 1, 1)], [[table_of("l")]]]


def plain_tables(words):
    return [table_of(word) for word in words]


def any_text(chance, least, most):
    return "".join(chance.choice("lr") for place in range(chance.randint(least, most)))


def texts_of(length):
    """All texts of l and r of so many letters, rising."""
    return ["".join(letters) for letters in itertools.product("lr", repeat=length)]


def some_plain(seed, many, most):
    """Lists of words; some alike, some put together of others."""
    chance = random.Random(seed)
    told = []
    for each in range(many):
        words = [any_text(chance, 1, most) for number in range(chance.randint(1, 6))]
        if each % 3 == 0:
            words.append((chance.choice(words) + chance.choice(words))[:most])
        if each % 5 == 0:
            words.append(chance.choice(words))
        chance.shuffle(words)
        told.append(words)
    return told


def full_tree(chance, ends):
    """The words of so many ends of a tree in which each word that isn't an end goes on by l and by r."""
    words = ["l", "r"]
    while len(words) < ends:
        word = words.pop(chance.randrange(len(words)))
        words += [word + "l", word + "r"]
    return words


def texts_made(words, most):
    """By every row: how many rows make each text of at most so many letters."""
    told = {}
    level = [""]
    while level:
        for text in level:
            told[text] = told.get(text, 0) + 1
        level = [text + word for text in level for word in words if len(text + word) <= most]
    return told


def refused_plain():
    """Things that are no plain makers: too few, too many, a bad one at any place, other kinds, several faults."""
    good = table_of("lr")
    told = [[good] * many for many in [0, 9, 10, 1000]] + NO_PLAIN_MAKERS
    for bad in BAD_PLAIN:
        for many in [1, 3, 8]:
            told += [[good] * place + [bad] + [good] * (many - place - 1) for place in range(many)]
    return told + [[ONE] * 9, [ONE, (1, -1, 0, 1), (1, GREAT, 0, 1)]]

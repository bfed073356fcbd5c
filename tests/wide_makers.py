"""Wide makers for the tests, and their graphs found by another way."""

import random

from quadwords.wide import reduced, wide_table

ONE = (1, 0, 0, 1)
GREAT = 10 ** 200 - 1
# Each of these, anywhere in a list, keeps it from being one of wide makers.
BAD_MAKERS = [(0, 0, 0, 0), (1, 1, 0, 1), (1, 0, 1, 1), (-1, 0, 0, -1), (3, 2, 4, 3), (1, 2, 2, 1), (2, 1, 1, 1),
              (1, 22, 0, 1), (1, 0, -22, 1), wide_table("uvUVuvUVuvU"), wide_table("v" * 400), (1, GREAT - 1, 0, 1),
              (1, 0, 1 - GREAT, 1), (1, GREAT, 0, 1), (1, 802, 0, 1)]
NO_MAKERS = [None, True, 1, "u", "", (), (ONE,), ONE, [None], ["u"], [[1, 0, 0, 1]], [ONE, (1, 0, 0)],
             [ONE, (True, 0, 0, True)], [[ONE]]]


def tables_of(words):
    return [wide_table(word) for word in words]


def turned(word):
    """The back of a word."""
    return word[::-1].swapcase()


def any_word(chance, least, most):
    return reduced("".join(chance.choice("uvUV") for place in range(chance.randint(least, most))))


def some_words(seed, many):
    """Lists of reduced words of at most ten letters; some alike, some empty, some made of others, and some free."""
    chance = random.Random(seed)
    told = []
    for each in range(many):
        most = chance.randint(1, 10)
        words = [any_word(chance, 0, most) for number in range(chance.randint(1, 7))]
        both = reduced(chance.choice(words) + turned(chance.choice(words)))
        told.append(words + [both] if len(both) <= 10 else words)
        if each % 2:
            told[-1] = [any_word(chance, 4, 10) for number in range(chance.randint(1, 4))]
    return told


def words_of_ten(chance):
    """Eight reduced words of ten letters."""
    words = []
    while len(words) < 8:
        word = any_word(chance, 10, 30)
        words += [word[:10]] if len(word) >= 10 else []
    return words


def by_joining(words):
    """By groups of places in words: those which the same letter leads to from one group are one group."""
    step = [(k, place, letter) for k, word in enumerate(words) for place, letter in enumerate(word)]
    name = {(k, place): (0, 0) if place in (0, len(words[k])) else (k, place)
            for k in range(len(words)) for place in range(len(words[k]) + 1)}
    steps = [(name[k, place], letter, name[k, place + 1]) for k, place, letter in step]
    steps += [(end, letter.swapcase(), start) for start, letter, end in steps]
    while True:
        leads = {}
        clash = None
        for start, letter, end in steps:
            other = leads.setdefault((start, letter), end)
            if other != end:
                clash = (max(other, end), min(other, end))
        if clash is None:
            break
        lost, kept = clash
        steps = [(kept if a == lost else a, letter, kept if b == lost else b) for a, letter, b in steps]
    order = [(0, 0)]
    for group in order:
        for letter in "uvUV":
            end = leads.get((group, letter))
            if end is not None and end not in order:
                order.append(end)
    numbers = {group: number for number, group in enumerate(order)}
    return [tuple(numbers.get(leads.get((group, letter))) for letter in "uvUV") for group in order]


def refused_wide():
    """Things that are no wide makers: too few, too many, a bad one at any place, other kinds, several faults."""
    good = wide_table("uV")
    told = [[good] * many for many in [0, 9, 10, 1000]] + NO_MAKERS
    for bad in BAD_MAKERS:
        for many in [1, 3, 8]:
            told += [[good] * place + [bad] + [good] * (many - place - 1) for place in range(many)]
    return told + [[(1, 1, 0, 1)] * 9, [(1, 22, 0, 1), (-1, 0, 0, -1), (1, GREAT, 0, 1)]]


def basis_by_hand(graph):
    """The words of point 17, told from a graph: stem by stem, and way by way."""
    stems, firsts = {0: ""}, set()
    for state in range(len(graph)):
        for letter, end in zip("uvUV", graph[state]):
            if end is not None and end not in stems:
                stems[end] = stems[state] + letter
                # What is found by U or V is found by the way of u or v back.
                firsts.add((state, letter) if letter in "uv" else (end, letter.lower()))
    words = []
    for state in range(len(graph)):
        for letter, end in zip("uv", graph[state][:2]):
            if end is not None and (state, letter) not in firsts:
                words.append(shortened(stems[state] + letter + turned(stems[end])))
    return words


def shortened(text):
    """A text of any length with pairs of a letter and its back left out."""
    told = ""
    for letter in text:
        told = told[:-1] if told.endswith(letter.swapcase()) else told + letter
    return told


def multiplied_out(word):
    """The table of a word of any length."""
    a, b, c, d = ONE
    for letter in word:
        step = 2 if letter in "uv" else -2
        a, b, c, d = (a, b + step * a, c, d + step * c) if letter in "uU" else (a + step * b, b, c + step * d, d)
    return (a, b, c, d)

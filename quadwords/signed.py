"""Signed rows of wide makers: what they make, one that makes a table, one that makes one."""

from quadwords.folds import LETTER_PLACES, folded, petals, put_behind
from quadwords.graphs import wide_maker_words
from quadwords.tables import back, product_of
from quadwords.wide import wide_word


def row_made(makers, row):
    """The table that a signed row makes."""
    wide_maker_words(makers)
    backs = [back(maker) for maker in makers]
    return product_of([makers[number - 1] if number > 0 else backs[-number - 1] for number in row])


def folded_with_rows(words):
    """The ways of makers' words, laid with the makers' numbers as rows, and the rows that make one."""
    rows = [[number + 1] for number in range(len(words))]
    laid, relations = folded(petals(words, rows))
    # A maker that is one has no ways, so nothing else would tell of it.
    return (laid, [row for word, row in zip(words, rows) if word == ""] + relations)


def signed_row(makers, table):
    """A reduced signed row that makes a table, or None."""
    words = wide_maker_words(makers)
    word = wide_word(table)
    laid, relations = folded_with_rows(words)
    made = []
    state = 0
    for letter in word:
        place = LETTER_PLACES[letter]
        if place not in laid[state]:
            return None
        state, row = laid[state][place]
        put_behind(made, row)
    return made if state == 0 else None


def relation(makers):
    """A reduced signed row, not empty, that makes one, or None where makers are free."""
    laid, relations = folded_with_rows(wide_maker_words(makers))
    return min(relations, key=len, default=None)

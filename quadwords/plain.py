"""Plain tables, and the words of l and r that make them."""

from quadwords.errors import NoPlain, NoWord, TooLong
from quadwords.tables import ONE, is_table, product_of, worth

LETTERS = {"l": (1, 0, 1, 1), "r": (1, 1, 0, 1)}
LONGEST_WORD = 400


def is_plain(table):
    """Whether a table is plain."""
    return is_table(table) and min(table) >= 0 and worth(table) == 1


def is_word(text):
    """Whether a text is a word."""
    if not isinstance(text, str) or len(text) > LONGEST_WORD:
        return False
    return all([letter in LETTERS for letter in text])


def table_of(word):
    """The table that a word makes, or NoWord."""
    if not is_word(word):
        raise NoWord("a word is a text of at most 400 signs, each l or r")
    return product_of([LETTERS[letter] for letter in word])


def word_within(table, most):
    """The text that makes a plain table, or None where it has more than so many letters."""
    a, b, c, d = table
    letters = []
    while (a, b, c, d) != ONE:
        # Asked at each letter, for a great table's text has more letters than could ever be told.
        if len(letters) == most:
            return None
        # The first letter added one row to the other; of a plain table but one, just one row holds the other.
        if c >= a and d >= b:
            letters.append("l")
            c, d = c - a, d - b
        else:
            letters.append("r")
            a, b = a - c, b - d
    return "".join(letters)


def word_of(table):
    """The word that makes a table, or NoPlain, or TooLong."""
    if not is_plain(table):
        raise NoPlain("a plain table has worth 1 and no number below 0")
    word = word_within(table, LONGEST_WORD)
    if word is None:
        raise TooLong("the table's word has more than 400 letters")
    return word

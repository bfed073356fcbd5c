"""Wide tables, and the words of u, v and their backs U, V that make them."""

from quadwords.errors import NoWide, NoWord, TooLong
from quadwords.tables import is_table, product_of, worth

WIDE_LETTERS = {"u": (1, 2, 0, 1), "v": (1, 0, 2, 1), "U": (1, -2, 0, 1), "V": (1, 0, -2, 1)}
LETTER_BACKS = {"u": "U", "v": "V", "U": "u", "V": "v"}
LONGEST_WIDE_WORD = 400


def is_wide(table):
    """Whether a table is wide."""
    if not is_table(table) or worth(table) != 1:
        return False
    a, b, c, d = table
    return a % 4 == 1 and b % 2 == 0 and c % 2 == 0 and d % 4 == 1


def check_wide_word(text):
    """NoWord where a text is no wide word."""
    if not isinstance(text, str) or len(text) > LONGEST_WIDE_WORD:
        raise NoWord("a wide word is a text of at most 400 signs")
    if not all([letter in WIDE_LETTERS for letter in text]):
        raise NoWord("a wide word has no signs but u, v, U and V")


def letters_table(letters):
    """The table that a text of wide letters makes, however long it is."""
    return product_of([WIDE_LETTERS[letter] for letter in letters])


def wide_table(word):
    """The table that a wide word makes, or NoWord."""
    check_wide_word(word)
    return letters_table(word)


def reduced_letters(letters):
    """A text of wide letters without those that stand beside their backs, however long it is."""
    kept = []
    for letter in letters:
        if kept and kept[-1] == LETTER_BACKS[letter]:
            kept.pop()
        else:
            kept.append(letter)
    return "".join(kept)


def reduced(word):
    """A wide word without the letters that stand beside their backs, or NoWord."""
    check_wide_word(word)
    return reduced_letters(word)


def back_letters(letters):
    """The text of wide letters that makes the back of what another one makes."""
    return "".join([LETTER_BACKS[letter] for letter in letters[::-1]])


def power(letter, many):
    """So many of a letter, or of its back where the number is below 0."""
    return letter * many if many > 0 else LETTER_BACKS[letter] * -many


def wide_word_within(table, most):
    """The reduced word that makes a wide table, or None where it has more than so many letters."""
    a, b, c, d = table
    powers = []
    length = 0
    # A power of u or v taken off the front leaves the greater of a and c less than the other one, by just one
    # power, for a is odd and c is even; so the powers are never 0 and u and v go by turns.
    while b != 0 or c != 0:
        if c == 0:
            letter, many = "u", b // 2
            b = 0
        elif abs(a) > abs(c):
            letter, many = "u", (a + c) // (2 * c)
            a, b = a - 2 * many * c, b - 2 * many * d
        else:
            letter, many = "v", (a + c) // (2 * a)
            c, d = c - 2 * many * a, d - 2 * many * b
        # Asked ahead of the letters themselves, for a great power has more than could ever be told.
        length += abs(many)
        if length > most:
            return None
        powers.append(power(letter, many))
    return "".join(powers)


def wide_word(table):
    """The reduced word that makes a table, or NoWide, or TooLong."""
    if not is_wide(table):
        raise NoWide("a wide table has worth 1, b and c even, and a and d leave 1 when divided by 4")
    word = wide_word_within(table, LONGEST_WIDE_WORD)
    if word is None:
        raise TooLong("the table's reduced word has more than 400 letters")
    return word

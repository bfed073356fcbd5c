"""Counts of rows and of tables, the share of makers, and the stuck text."""

from quadwords.errors import NoCount
from quadwords.rows import maker_words

MOST_LETTERS_OF_ROWS = 400
MOST_LETTERS_OF_TABLES = 40
LONGEST_COUNTED_MAKER = 12
MOST_LETTERS_TOGETHER = 30


def check_letters(n, most):
    """NoCount where n isn't from 0 to the most."""
    if not 0 <= n <= most:
        raise NoCount("so many letters are out of bounds")


def count_of_rows(makers, n):
    """How many rows make a table whose word has n letters."""
    words = maker_words(makers)
    check_letters(n, MOST_LETTERS_OF_ROWS)
    counts = [1]
    for length in range(1, n + 1):
        counts.append(sum([counts[length - len(word)] for word in words if len(word) <= length]))
    return counts[n]


def rests_behind(words, rests, letter):
    """What may still be to come, when a letter is read, of the words of which rests were to come.

    The rests, here and told, are a tuple, rising, each once; the empty one is there where a row may end.
    """
    begun = list(rests) + (words if "" in rests else [])
    return tuple(sorted({rest[1:] for rest in begun if rest.startswith(letter)}))


def next_counts(words, counts):
    """From how many texts leave which rests, the same of the texts of one letter more."""
    told = {}
    for rests, many in counts.items():
        for letter in "lr":
            behind = rests_behind(words, rests, letter)
            told[behind] = told.get(behind, 0) + many
    return told


def count_of_tables(makers, n):
    """How many tables whose words have n letters are made."""
    words = maker_words(makers)
    check_letters(n, MOST_LETTERS_OF_TABLES)
    if any([len(word) > LONGEST_COUNTED_MAKER for word in words]):
        raise NoCount("tables are counted of makers of at most 12 letters")
    # Whether a text is made hangs on its rests alone, so texts that leave the same ones are counted together.
    counts = {("",): 1}
    for length in range(n):
        counts = next_counts(words, counts)
    return sum([many for rests, many in counts.items() if "" in rests])


def share(makers):
    """The sum, over all makers, of 1 divided by 2 as often as its word has letters, in lowest terms."""
    lengths = [len(word) for word in maker_words(makers)]
    longest = max(lengths)
    top = sum([1 << (longest - length) for length in lengths])
    bottom = 1 << longest
    # The bottom has no divisors but those that 2 makes.
    while top % 2 == 0 and bottom > 1:
        top, bottom = top // 2, bottom // 2
    return (top, bottom)


def all_rests(words):
    """The rests that may be to come where a text that is part of another one begins: all that any word can have."""
    return tuple(sorted({word[at:] for word in words for at in range(len(word))}))


def further_rests(words, texts, waiting):
    """The rests that are first left by one letter more than those that wait; the texts are told of them, too.

    Those that wait stand in the order of their texts, all of one length, so each is told with the first of its own.
    """
    told = []
    for rests in waiting:
        for letter in "lr":
            behind = rests_behind(words, rests, letter)
            if behind not in texts:
                texts[behind] = texts[rests] + letter
                told.append(behind)
    return told


def stuck(makers):
    """The shortest text, of these the first, that is part of no text that a row makes; or None."""
    words = maker_words(makers)
    if sum([len(word) for word in words]) > MOST_LETTERS_TOGETHER:
        raise NoCount("the stuck text is asked of makers of at most 30 letters together")
    # What can follow hangs on the rests alone, so of all texts that leave the same ones the first is enough.
    texts = {all_rests(words): ""}
    waiting = list(texts)
    while waiting and () not in texts:
        waiting = further_rests(words, texts, waiting)
    return texts.get(())

"""Roots of wide tables, and turners from one to another."""

from quadwords.wide import LETTER_BACKS, back_letters, letters_table, wide_word


def stem_length(word):
    """How many letters a reduced word begins with whose backs, from the last to the first, it ends with."""
    length = 0
    # Between these a reduced word that isn't empty has at least one letter more, so the count comes to an end.
    while word != "" and word[length] == LETTER_BACKS[word[-1 - length]]:
        length += 1
    return length


def stem_and_core(word):
    """The stem of a reduced word, and what stands between the stem and its back."""
    length = stem_length(word)
    return (word[:length], word[length:len(word) - length])


def root_length(core):
    """How many letters the shortest word has of which a core is made by taking it some times."""
    # A core stands in itself taken twice, behind the first letter, first where its root has ended.
    return (core + core)[1:].find(core) + 1


def root_of(table):
    """The root of a wide table and how often it is taken, or None of one; or NoWide, or TooLong."""
    word = wide_word(table)
    if word == "":
        return None
    stem, core = stem_and_core(word)
    length = root_length(core)
    return (letters_table(stem + core[:length] + back_letters(stem)), len(core) // length)


def turner(one, other):
    """A wide table by which one table is turned into the other, or None; or NoWide, or TooLong, of each."""
    stem, core = stem_and_core(wide_word(one))
    other_stem, other_core = stem_and_core(wide_word(other))
    # Tables are turned into one another just where their cores are the same but for the letter that goes first.
    start = (core + core).find(other_core)
    if len(core) != len(other_core) or start < 0:
        return None
    return letters_table(stem + core[:start] + back_letters(other_stem))

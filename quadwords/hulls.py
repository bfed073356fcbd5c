"""Hulls: the free makers nearest to makers that may not be free."""

from quadwords.free import needed_of, twins_of
from quadwords.plain import table_of
from quadwords.rows import maker_words


def needed_words(words):
    """The words that are needed, rising."""
    return sorted([words[number] for number in needed_of(words)])


def left_between(words, twins):
    """What the longer one of the twins' first words has behind the shorter one."""
    # The words rise, so the one of the lesser number is the shorter.
    one, other = twins
    return words[other[0]][len(words[one[0]]):]


def hull_words(words):
    """The words of the hull, rising."""
    kept = needed_words(words)
    twins = twins_of(kept)
    while twins is not None:
        # Whoever is free and makes the words makes what is left between twins' first words, too; and with that the
        # longer one of these isn't needed any more, so there are ever fewer letters.
        kept = needed_words(kept + [left_between(kept, twins)])
        twins = twins_of(kept)
    return kept


def hull(makers):
    """The hull of makers."""
    return [table_of(word) for word in hull_words(maker_words(makers))]

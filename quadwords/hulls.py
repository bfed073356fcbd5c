"""Hulls: the free makers nearest to makers that may not be free."""

from quadwords.free import needed_of, twins_of
from quadwords.plain import table_of
from quadwords.rows import maker_words


def needed_words(words):
    """The words that are needed, rising."""
    return sorted([words[number] for number in needed_of(words)])


def split_longer(words, twins):
    """The words with what the longer one of the twins' first words has behind the shorter one in its place."""
    first, second = sorted([words[twins[0][0]], words[twins[1][0]]], key=len)
    return [word for word in words if word != second] + [second[len(first):]]


def hull_words(words):
    """The words of the hull, rising."""
    kept = needed_words(words)
    twins = twins_of(kept)
    while twins is not None:
        # Whoever is free and makes both twins' text makes what is left between their first words, too.
        kept = needed_words(split_longer(kept, twins))
        twins = twins_of(kept)
    return kept


def hull(makers):
    """The hull of makers."""
    return [table_of(word) for word in hull_words(maker_words(makers))]

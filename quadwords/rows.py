"""Rows of plain makers: the least, how many, and the places reached."""

from quadwords.errors import NoMakers
from quadwords.plain import is_plain, word_of, word_within

MOST_MAKERS = 8
LONGEST_MAKER = 40


def maker_word(maker):
    """The word of one maker, or NoMakers."""
    if not is_plain(maker):
        raise NoMakers("a maker is a plain table")
    word = word_within(maker, LONGEST_MAKER)
    if word is None or word == "":
        raise NoMakers("a maker's word has 1 to 40 letters")
    return word


def maker_words(makers):
    """The words of makers, in their order, or NoMakers."""
    if not isinstance(makers, list) or not 1 <= len(makers) <= MOST_MAKERS:
        raise NoMakers("makers are a list of 1 to 8 tables")
    return [maker_word(maker) for maker in makers]


def last_steps(words, text, end):
    """Of each word that stands just ahead of a place of the text: its number, and the place where it begins."""
    # Each table has just one word, so a row makes a table just where its words, one behind another, are that word.
    ahead = text[:end]
    return [(number, end - len(word)) for number, word in enumerate(words) if ahead.endswith(word)]


def ways_to_places(words, text):
    """For each place of the text, how many rows make what stands ahead of it."""
    ways = [1]
    for end in range(1, len(text) + 1):
        ways.append(sum([ways[start] for number, start in last_steps(words, text, end)]))
    return ways


def shortest_first(row):
    """By what the least of several rows is found."""
    return (len(row), row)


def least_to_places(words, text):
    """For each place of the text, the least row that makes what stands ahead of it, or None."""
    # What is ahead of a least row's last number is itself least, so longer rows are built on least ones alone.
    least = [[]]
    for end in range(1, len(text) + 1):
        steps = [(number, start) for number, start in last_steps(words, text, end) if least[start] is not None]
        rows = [least[start] + [number] for number, start in steps]
        least.append(min(rows, key=shortest_first, default=None))
    return least


def reached_places(words, text):
    """The places of the text to which some row of words comes, rising."""
    return [place for place, many in enumerate(ways_to_places(words, text)) if many > 0]


def least_row(makers, table):
    """The shortest row that makes a table, of these the first, or None."""
    words = maker_words(makers)
    text = word_of(table)
    return least_to_places(words, text)[len(text)]


def many_rows(makers, table):
    """How many rows make a table."""
    words = maker_words(makers)
    text = word_of(table)
    return ways_to_places(words, text)[len(text)]


def reached(makers, table):
    """The places reached of makers and a table, rising."""
    words = maker_words(makers)
    return reached_places(words, word_of(table))

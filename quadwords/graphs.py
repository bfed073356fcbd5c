"""Graphs of wide makers: which words close in them, what they bar, their rank and index."""

from quadwords.errors import NoMakers
from quadwords.folds import LETTER_PLACES, back_place, folded, petals
from quadwords.tables import is_whole
from quadwords.wide import is_wide, wide_word, wide_word_within

MOST_WIDE_MAKERS = 8
LONGEST_WIDE_MAKER = 10


def wide_maker_word(maker):
    """The reduced word of one wide maker, or NoMakers."""
    if not is_wide(maker):
        raise NoMakers("a wide maker is a wide table")
    word = wide_word_within(maker, LONGEST_WIDE_MAKER)
    if word is None:
        raise NoMakers("a wide maker's reduced word has at most 10 letters")
    return word


def wide_maker_words(makers):
    """The reduced words of wide makers, in their order, or NoMakers."""
    if not isinstance(makers, list) or not 1 <= len(makers) <= MOST_WIDE_MAKERS:
        raise NoMakers("wide makers are a list of 1 to 8 tables")
    return [wide_maker_word(maker) for maker in makers]


def found_states(leads, first):
    """The states, in the order in which they are found from the first one on by u, v, U, V, with their numbers."""
    numbers = {first: 0}
    states = [first]
    at = 0
    while at < len(states):
        ends = leads[states[at]]
        for place in range(4):
            if place in ends and ends[place] not in numbers:
                numbers[ends[place]] = len(states)
                states.append(ends[place])
        at += 1
    return numbers


def numbered(leads, first):
    """The graph of states that lead, by places, to others; the first one becomes state 0."""
    numbers = found_states(leads, first)
    # None is no state, so it has no number and stays None.
    return [tuple([numbers.get(leads[state].get(place)) for place in range(4)]) for state in numbers]


def graph_of(makers):
    """The graph of wide makers."""
    words = wide_maker_words(makers)
    # Each state lies on the way of a maker's word, which is reduced and closes; so none is to be cut off.
    laid, relations = folded(petals(words, [[] for word in words]))
    leads = {state: {place: laid[state][place][0] for place in laid[state]} for state in laid}
    return numbered(leads, 0)


def closes(graph, word):
    """Whether a word can be gone from state 0 and comes back to it."""
    state = 0
    for letter in word:
        if state is None:
            return False
        state = graph[state][LETTER_PLACES[letter]]
    return state == 0


def is_end(graph, thing):
    """Whether a thing is the number of a state, or None."""
    return thing is None or (is_whole(thing) and 0 <= thing < len(graph))


def has_ends(graph, thing):
    """Whether a thing tells of four letters where they lead."""
    return isinstance(thing, tuple) and len(thing) == 4 and all([is_end(graph, end) for end in thing])


def leads_back(graph, state, place):
    """Whether the letter at a place doesn't lead on from a state, or its back leads here again."""
    end = graph[state][place]
    return end is None or graph[end][back_place(place)] == state


def is_graph(graph):
    """Whether a thing is a graph, whoever wrote it."""
    if not isinstance(graph, list) or graph == [] or not all([has_ends(graph, ends) for ends in graph]):
        return False
    return all([leads_back(graph, state, place) for state in range(len(graph)) for place in range(4)])


def bars(makers, table, graph):
    """Whether a graph bars a table from wide makers."""
    words = wide_maker_words(makers)
    word = wide_word(table)
    if not is_graph(graph) or not all([closes(graph, maker) for maker in words]):
        return False
    return not closes(graph, word)


def rank(makers):
    """The rank of wide makers."""
    graph = graph_of(makers)
    told = [end for ends in graph for end in ends[:2] if end is not None]
    return len(told) - len(graph) + 1


def is_full(graph):
    """Whether no None is told in a graph."""
    return not any([None in ends for ends in graph])


def index(makers):
    """How many states the graph of wide makers has, or None where it tells some None."""
    graph = graph_of(makers)
    return len(graph) if is_full(graph) else None

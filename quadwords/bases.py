"""Bases: free wide makers that make what others make, and what two lists have in common."""

from quadwords.graphs import graph_of, numbered
from quadwords.wide import back_letters, letters_table, reduced_letters

LETTERS_BY_PLACE = "uvUV"


def stems_of(graph):
    """For each state the word of the way by which it was found first."""
    stems = {0: ""}
    for state, ends in enumerate(graph):
        for letter, end in zip(LETTERS_BY_PLACE, ends):
            if end is not None and end not in stems:
                stems[end] = stems[state] + letter
    return stems


def ways_onward(graph):
    """The ways of u and v: for each the state from which it leads, the letter, and the state to which it leads."""
    return [(state, LETTERS_BY_PLACE[place], graph[state][place]) for state in range(len(graph)) for place in range(2)
            if graph[state][place] is not None]


def basis_words(graph):
    """The words of the basis of a graph."""
    stems = stems_of(graph)
    around = [stems[start] + letter + back_letters(stems[end]) for start, letter, end in ways_onward(graph)]
    words = [reduced_letters(letters) for letters in around]
    # Of the ways by which states were found first nothing is left, and of every other one something is.
    return [word for word in words if word != ""]


def basis_of(graph):
    """The tables of the basis of a graph."""
    return [letters_table(word) for word in basis_words(graph)]


def basis(makers):
    """The basis of wide makers."""
    return basis_of(graph_of(makers))


def leads_in_both(one, other, pair):
    """By places, to which pair of states the letters lead that lead on from both states of a pair."""
    ends = list(zip(one[pair[0]], other[pair[1]]))
    return {place: end for place, end in enumerate(ends) if None not in end}


def common_leads(one, other):
    """The pairs of states to which a word leads in both graphs, each with the pairs to which it leads on."""
    leads = {}
    waiting = [(0, 0)]
    while waiting:
        pair = waiting.pop()
        if pair not in leads:
            leads[pair] = leads_in_both(one, other, pair)
            waiting.extend(list(leads[pair].values()))
    return leads


def common(makers, others):
    """The common basis of two lists of wide makers."""
    one = graph_of(makers)
    leads = common_leads(one, graph_of(others))
    # Pairs on the way of no reduced word that closes hang on the others like twigs: each way of a twig is one by which
    # a pair is found first, and none leads back, so the basis is the same with them as without.
    return basis_of(numbered(leads, (0, 0)))


def same_wide(makers, others):
    """Whether two lists of wide makers and their backs make the same tables."""
    one = graph_of(makers)
    return one == graph_of(others)

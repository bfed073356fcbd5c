"""Moves of wide makers' states, and others that are within wide makers."""

from quadwords.graphs import closes, graph_of, is_full, wide_maker_words


def moves(makers):
    """To which states u leads, and v, or None where some None is told in the graph."""
    graph = graph_of(makers)
    if not is_full(graph):
        return None
    return ([ends[0] for ends in graph], [ends[1] for ends in graph])


def all_within(makers, others):
    """Whether wide makers and their backs make each of the others."""
    graph = graph_of(makers)
    return all([closes(graph, word) for word in wide_maker_words(others)])

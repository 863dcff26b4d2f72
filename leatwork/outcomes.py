"""Outcomes (point 19)."""

from leatwork.programs import BUILT_IN
from leatwork.texts import graph_text


def outcome_texts(graphs):
    """Returns the tuple of the texts of trees with variables and names numbered anew; raises TooMany."""
    numbers = {}
    return tuple([graph_text(_numbered(graph, numbers)) for graph in graphs])


def _numbered(graph, numbers):
    """Returns the graph with numbers as they are met; `numbers` goes on to hold those that were given so far."""
    row = []
    for node in graph:
        if node[0] == "var" or (node[0] == "name" and not _is_built_in(node)):
            of_kind = numbers.setdefault(node[:-1], {})
            row.append((*node[:-1], of_kind.setdefault(node[-1], len(of_kind))))
        else:
            row.append(node)
    return tuple(row)


def _is_built_in(node):
    return node[1] == "builtin" and node[2] < len(BUILT_IN)


def outcome_counts(statuses):
    """Returns the ascending tuple of the pairs of a status other than "done" and how often it is there."""
    counts = {}
    for status in statuses:
        if status != "done":
            counts[status] = counts.get(status, 0) + 1
    return tuple(sorted(counts.items()))

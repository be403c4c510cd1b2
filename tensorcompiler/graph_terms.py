"""The terms of a graph: what its nodes hold, for all feeds at once."""

from tensorcompiler.computing import all_items
from tensorcompiler.graphs import check_graph, input_places
from tensorcompiler.shapes import count_of


def graph_terms(table, graph):
    """Return for each node the ids of its elements; element e of input k is the variable with the key (k, e)."""
    domains = check_graph(graph)
    return all_items(table, graph[0], domains, input_terms(table, graph[0]))


def input_terms(table, nodes):
    """Return for each input among nodes, by its index, the ids of its elements."""
    fed = {}
    for number, place in enumerate(input_places(nodes)):
        shape, low, high = nodes[place][2]
        fed[place] = tuple([table.variable((number, at), low, high) for at in range(count_of(shape))])
    return fed

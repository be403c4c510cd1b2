"""Tidying: graphs with less in them and the same outputs."""

from tensorcompiler.computing import Numbers, compute
from tensorcompiler.graphs import check_graph


def prune(graph):
    """Return the graph without the nodes that no output needs; the inputs stay."""
    check_graph(graph)
    nodes, outs = graph
    needed = [node[0] == "input" for node in nodes]
    for out in outs:
        needed[out] = True
    for place in reversed(range(len(nodes))):
        if needed[place]:
            for arg in nodes[place][1]:
                needed[arg] = True
    remaining = []
    places = {}
    for place, node in enumerate(nodes):
        if needed[place]:
            places[place] = len(remaining)
            remaining.append(_moved(node, places))
    return (tuple(remaining), tuple([places[out] for out in outs]))


def fold_constants(graph):
    """Return the graph with a const for each node that is computed from const nodes alone."""
    domains = check_graph(graph)
    folded = []
    for node, domain in zip(graph[0], domains):
        given = [folded[arg] for arg in node[1]]
        if len(given) > 0 and all([other[0] == "const" for other in given]):
            shapes = [other[2][0] for other in given]
            data = compute(Numbers(), node, domain[0], shapes, [other[2][1] for other in given])
            folded.append(("const", (), (domain[0], data)))
        else:
            folded.append(node)
    return (tuple(folded), graph[1])


def share(graph):
    """Return the graph with one node for all that are equal; the inputs stay."""
    check_graph(graph)
    nodes, outs = graph
    remaining = []
    places = {}
    firsts = {}
    for place, node in enumerate(nodes):
        moved = _moved(node, places)
        if moved[0] != "input" and moved in firsts:
            places[place] = firsts[moved]
        else:
            places[place] = len(remaining)
            firsts[moved] = len(remaining)
            remaining.append(moved)
    return (tuple(remaining), tuple([places[out] for out in outs]))


def _moved(node, places):
    kind, args, info = node
    return (kind, tuple([places[arg] for arg in args]), info)

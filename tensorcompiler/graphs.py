"""Graphs: pairs (nodes, outs) of nodes and of indexes of nodes."""

from tensorcompiler.domains import domain_of
from tensorcompiler.errors import FormError, TooLarge
from tensorcompiler.kinds import NODE_LIMIT, WORK_LIMIT
from tensorcompiler.shapes import count_of


def check_graph(graph):
    """Return the tuple of the domains of all nodes, or raise the error of the graph."""
    nodes, outs = graph
    if len(nodes) > NODE_LIMIT:
        raise TooLarge(f"a graph has {len(nodes)} nodes")
    domains = []
    for node in nodes:
        domains.append(domain_of(node, domains))
    if len(outs) == 0:
        raise FormError("a graph has no outputs")
    for out in outs:
        if out < 0 or out >= len(nodes):
            raise FormError("an output is not a node")
    if total_work(nodes, domains) > WORK_LIMIT:
        raise TooLarge("a graph has too much work")
    return tuple(domains)


def inputs_of(graph):
    """Return the tuple of the indexes of the inputs."""
    check_graph(graph)
    return input_places(graph[0])


def work_of(graph):
    """Return the work of a valid graph."""
    return total_work(graph[0], check_graph(graph))


def input_places(nodes):
    """Return the tuple of the indexes of the inputs among nodes that need not be checked again."""
    return tuple([place for place, node in enumerate(nodes) if node[0] == "input"])


def total_work(nodes, domains):
    """Return the sum of the works of nodes with these domains."""
    total = 0
    for node, domain in zip(nodes, domains):
        total = total + work_of_node(node, domain, domains)
    return total


def work_of_node(node, domain, domains):
    """Return the work of a node with this domain, given the domains of the nodes before it."""
    kind, args, info = node
    if kind == "input" or kind == "const":
        return 0
    if kind in ("sum", "peak", "fold"):
        return count_of(domains[args[0]][0])
    if kind == "dot":
        sizes = dict(domains[args[0]][0])
        return count_of(domain[0]) * sizes[info[0]]
    return count_of(domain[0])

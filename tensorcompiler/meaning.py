"""What a graph means: the values of its nodes for given feeds."""

from tensorcompiler.computing import Numbers, all_items
from tensorcompiler.errors import FeedError, RangeError
from tensorcompiler.graphs import check_graph, input_places
from tensorcompiler.shapes import count_of


def evaluate(graph, feeds):
    """Return the values of the outputs."""
    values = evaluate_all(graph, feeds)
    return tuple([values[out] for out in graph[1]])


def evaluate_all(graph, feeds):
    """Return the values of all nodes."""
    domains = check_graph(graph)
    check_feeds(graph[0], domains, feeds)
    return all_items(Numbers(), graph[0], domains, dict(zip(input_places(graph[0]), feeds)))


def check_feeds(nodes, domains, feeds):
    """Raise the error of feeds for nodes with these domains."""
    places = input_places(nodes)
    if len(feeds) != len(places):
        raise FeedError("there are not as many feeds as inputs")
    for feed, place in zip(feeds, places):
        shape, low, high = domains[place]
        if len(feed) != count_of(shape):
            raise FeedError("a feed does not have as many numbers as its input")
        for n in feed:
            if n < low or n > high:
                raise RangeError("a number of a feed is not in the interval of its input")

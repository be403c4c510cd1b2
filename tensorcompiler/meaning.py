"""What a graph means: the values of its nodes for given feeds."""

from tensorcompiler.computing import Numbers, all_items
from tensorcompiler.errors import FeedError, RangeError
from tensorcompiler.graphs import check_graph, input_places
from tensorcompiler.shapes import count_of


def evaluate(graph, feeds):
    """Return the values of the outputs."""
    values = evaluate_all(graph, feeds)
    return tuple([values[out] for out in graph[1]])


def evaluate_all(graph, feeds):
    """Return the values of all nodes."""
    domains = check_graph(graph)
    places = input_places(graph[0])
    _check_feeds(feeds, [domains[place] for place in places])
    return all_items(Numbers(), graph[0], domains, dict(zip(places, feeds)))


def _check_feeds(feeds, domains):
    if len(feeds) != len(domains):
        raise FeedError("there are not as many feeds as inputs")
    for feed, (shape, low, high) in zip(feeds, domains):
        if len(feed) != count_of(shape):
            raise FeedError("a feed does not have as many numbers as its input")
        for n in feed:
            if n < low or n > high:
                raise RangeError("a number of a feed is not in the interval of its input")

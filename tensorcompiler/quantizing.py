"""Quantizing: from a model to a graph on codes, and between numbers and codes."""

from tensorcompiler.drafts import Draft
from tensorcompiler.errors import FeedError, RangeError
from tensorcompiler.graphs import check_graph, input_places
from tensorcompiler.meaning import check_feeds
from tensorcompiler.models import MOVING, check_model_and_table, code_bounds
from tensorcompiler.ratios import over, times
from tensorcompiler.scales import code_of, meaning_of, multiplier
from tensorcompiler.shapes import count_of


class Quantized:
    """A graph on codes in the making: the draft, and the node that stands for each node of the model so far."""

    def __init__(self, table, bits):
        self.draft = Draft(())
        self.places = []
        self._table = table
        self._bits = bits

    def scale(self, node):
        """Return the scale of a node of the model."""
        return self._table[node][0]

    def zero(self, node):
        """Return the zero of a node of the model."""
        return self._table[node][1]

    def codes(self, node, data):
        """Return the codes of numbers for a node of the model."""
        return tuple([code_of(self._table[node], self._bits, (n, 1)) for n in data])

    def put_less_zero(self, node):
        """Put the codes of a node of the model less its zero."""
        if self.zero(node) == 0:
            return self.places[node]
        zero = self.draft.put_number(self.zero(node))
        return self.draft.put("sub", (self.places[node], zero), ())

    def put_plus_zero(self, made, node):
        """Put what was made plus the zero of a node of the model."""
        if self.zero(node) == 0:
            return made
        zero = self.draft.put_number(self.zero(node))
        return self.draft.put("add", (made, zero), ())

    def put_times(self, made, factor):
        """Put what was made times a fraction, rounded."""
        many, shift = multiplier(factor)
        if many == 1 << shift:
            return made
        number = self.draft.put_number(many)
        product = self.draft.put("mul", (made, number), ())
        return self.draft.put("shift", (product,), (shift,))

    def put_end(self, made, node):
        """Put the code for what was made."""
        return self.draft.put("clamp", (self.put_plus_zero(made, node),), code_bounds(self._bits))


def quantize_graph(graph, table, bits):
    """Return the graph on codes that does what the model does on numbers."""
    check_model_and_table(graph, table, bits)
    nodes, outs = graph
    work = Quantized(table, bits)
    for place, (kind, args, info) in enumerate(nodes):
        if kind == "input":
            made = work.draft.put(kind, (), (info[0],) + code_bounds(bits))
        elif kind == "const":
            made = work.draft.put(kind, (), (info[0], work.codes(place, info[1])))
        elif kind == "pad":
            padded = work.draft.put(kind, (work.put_less_zero(args[0]),), info)
            made = work.put_plus_zero(padded, place)
        elif kind in MOVING:
            made = work.draft.put(kind, (work.places[args[0]],), info)
        else:
            made = _put_computed(work, nodes[place], place)
        work.places.append(made)
    result = (tuple(work.draft.nodes), tuple([work.places[out] for out in outs]))
    check_graph(result)
    return result


def encode_feeds(graph, table, bits, feeds):
    """Return the feeds of codes for feeds of the model."""
    domains = check_model_and_table(graph, table, bits)
    check_feeds(graph[0], domains, feeds)
    found = []
    for place, feed in zip(input_places(graph[0]), feeds):
        found.append(tuple([code_of(table[place], bits, (n, 1)) for n in feed]))
    return tuple(found)


def decode_outputs(graph, table, bits, values):
    """Return the fractions that codes for the outputs mean."""
    domains = check_model_and_table(graph, table, bits)
    outs = graph[1]
    if [len(codes) for codes in values] != [count_of(domains[out][0]) for out in outs]:
        raise FeedError("there are not as many codes as the outputs have elements")
    least, most = code_bounds(bits)
    for codes in values:
        if min(codes) < least or max(codes) > most:
            raise RangeError("a number is not a code")
    return tuple([tuple([meaning_of(table[out], code) for code in codes]) for out, codes in zip(outs, values)])


def _put_computed(work, node, place):
    """Put the nodes for a computed node of the model that does more than move elements."""
    kind, args, info = node
    scale = work.scale(place)
    made = []
    for arg in args:
        less = work.put_less_zero(arg)
        if kind in ("mul", "dot", "neg", "sum"):
            made.append(less)
        else:
            made.append(work.put_times(less, over(work.scale(arg), scale)))
    result = work.draft.put(kind, tuple(made), info)
    if kind in ("mul", "dot"):
        result = work.put_times(result, over(times(work.scale(args[0]), work.scale(args[1])), scale))
    elif kind in ("neg", "sum"):
        result = work.put_times(result, over(work.scale(args[0]), scale))
    return work.put_end(result, place)

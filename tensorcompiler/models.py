"""Models: graphs that can be turned into graphs on codes, and the tables of their scales and zeros."""

from tensorcompiler.errors import KindError, RangeError, TableError
from tensorcompiler.graphs import check_graph

MOVING = ("order", "rename", "spread", "cut", "pad", "window")

_KINDS = (
    "input", "const", "add", "sub", "mul", "max", "min", "neg", "sum", "dot", "join", "order", "rename", "spread",
    "cut", "pad", "window",
)

# The numerator and the denominator of a scale are at most 2 to this power.
_SCALE_BITS = 40


def check_bits(bits):
    """Raise RangeError if there are no codes of that many bits."""
    if bits < 3 or bits > 12:
        raise RangeError("the number of bits is not from 3 to 12")


def code_bounds(bits):
    """Return the least and the greatest code."""
    return (-(1 << (bits - 1)), (1 << (bits - 1)) - 1)


def check_model(graph, bits):
    """Return the domains of a model, or raise its error or that of the bits."""
    domains = check_graph(graph)
    for kind, _, _ in graph[0]:
        if kind not in _KINDS:
            raise KindError(f"a model has no nodes of the kind {kind}")
    check_bits(bits)
    return domains


def check_model_and_table(graph, table, bits):
    """Return the domains of a model, or raise its error, that of the bits or that of the table."""
    domains = check_model(graph, bits)
    if len(table) != len(graph[0]):
        raise TableError("there are not as many pairs as nodes")
    least, most = code_bounds(bits)
    greatest = 1 << _SCALE_BITS
    for (kind, args, _), (_, low, high), pair in zip(graph[0], domains, table):
        scale, zero = pair
        if scale[0] <= 0 or scale[0] > greatest or scale[1] > greatest:
            raise TableError("a scale is not greater than zero, or its numbers are too great")
        if zero < least or zero > most:
            raise TableError("a zero is not a code")
        if kind in MOVING:
            if pair != table[args[0]]:
                raise TableError("a node that only moves elements has another pair than its argument")
        elif low * scale[1] < scale[0] * (least - zero) or high * scale[1] > scale[0] * (most - zero):
            raise TableError("the codes of a node do not reach over its interval")
    return domains

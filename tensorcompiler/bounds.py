"""Bounds: by how much the outputs of a graph on codes can differ from those of its model."""

from tensorcompiler.models import check_model_and_table, code_bounds
from tensorcompiler.ratios import compare, fraction, magnitude, minus, over, plus, times
from tensorcompiler.result_shapes import size_along
from tensorcompiler.scales import code_of, meaning_of, multiplier

_HALF = (1, 2)
_NONE = (0, 1)


def bound_of(graph, table, bits):
    """Return for each output the greatest difference that there can be."""
    domains = check_model_and_table(graph, table, bits)
    work = Bounds(domains, table, bits)
    for place, (kind, args, info) in enumerate(graph[0]):
        maker = _ERRORS[kind]
        work.errors.append(maker(work, place, args, info))
    return tuple([work.errors[out] for out in graph[1]])


class Bounds:
    """The errors of the nodes of a model so far, with what is known of the nodes."""

    def __init__(self, domains, table, bits):
        self.errors = []
        self.bits = bits
        self.table = table
        self._domains = domains

    def scale(self, node):
        """Return the scale of a node."""
        return self.table[node][0]

    def size(self, node, axis):
        """Return the size of an axis of a node as a fraction."""
        return (size_along(self._domains[node][0], axis), 1)

    def reach(self, node):
        """Return the greatest absolute value of a number in the interval of a node, as a fraction."""
        _, low, high = self._domains[node]
        return (max(abs(low), abs(high)), 1)

    def code_reach(self, node):
        """Return the greatest absolute value of a code of a node less its zero, as a fraction."""
        zero = self.table[node][1]
        least, most = code_bounds(self.bits)
        return (max(abs(least - zero), abs(most - zero)), 1)

    def step(self, node, factor, bound):
        """Return what the multiplication by a factor adds for a node, for numbers of at most that size."""
        many, shift = multiplier(factor)
        if many == 1 << shift:
            return _product(self.scale(node), bound, magnitude(minus(factor, (1, 1))))
        missed = magnitude(minus(factor, fraction(many, 1 << shift)))
        return times(self.scale(node), plus(times(bound, missed), _HALF))


def _product(a, b, c):
    return times(times(a, b), c)


def _greater(a, b):
    return a if compare(a, b) > 0 else b


# Each function below returns the error of a node at a place.

def _input_error(work, place, args, info):
    scale = work.scale(place)
    return _NONE if scale[0] == 1 else times(scale, _HALF)


def _const_error(work, place, args, info):
    pair = work.table[place]
    worst = _NONE
    for n in info[1]:
        worst = _greater(worst, magnitude(minus((n, 1), meaning_of(pair, code_of(pair, work.bits, (n, 1))))))
    return worst


def _moving_error(work, place, args, info):
    return work.errors[args[0]]


def _with_step(work, place, arg):
    """Return the error of an arg with the step of bringing it to the scale of the node."""
    added = work.step(place, over(work.scale(arg), work.scale(place)), work.code_reach(arg))
    return plus(work.errors[arg], added)


def _sum_of_both_error(work, place, args, info):
    return plus(_with_step(work, place, args[0]), _with_step(work, place, args[1]))


def _one_of_both_error(work, place, args, info):
    return _greater(_with_step(work, place, args[0]), _with_step(work, place, args[1]))


def _neg_error(work, place, args, info):
    return _with_step(work, place, args[0])


def _product_error(work, place, args, many):
    """Return the error of the sum of that many products, a fraction."""
    a, b = args
    first = _product(work.scale(a), work.code_reach(a), work.errors[b])
    second = times(work.reach(b), work.errors[a])
    factor = over(times(work.scale(a), work.scale(b)), work.scale(place))
    added = work.step(place, factor, _product(many, work.code_reach(a), work.code_reach(b)))
    return plus(times(many, plus(first, second)), added)


def _mul_error(work, place, args, info):
    return _product_error(work, place, args, (1, 1))


def _dot_error(work, place, args, info):
    return _product_error(work, place, args, work.size(args[0], info[0]))


def _sum_error(work, place, args, info):
    arg = args[0]
    many = work.size(arg, info[0])
    added = work.step(place, over(work.scale(arg), work.scale(place)), times(many, work.code_reach(arg)))
    return plus(times(many, work.errors[arg]), added)


_ERRORS = {
    "input": _input_error, "const": _const_error, "order": _moving_error, "rename": _moving_error,
    "spread": _moving_error, "cut": _moving_error, "pad": _moving_error, "window": _moving_error,
    "add": _sum_of_both_error, "sub": _sum_of_both_error, "max": _one_of_both_error, "min": _one_of_both_error,
    "join": _one_of_both_error, "neg": _neg_error, "mul": _mul_error, "dot": _dot_error, "sum": _sum_error,
}

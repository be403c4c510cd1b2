"""Scales and zeros: what the codes of a few bits mean."""

from tensorcompiler.errors import TableError
from tensorcompiler.kinds import limit
from tensorcompiler.models import MOVING, check_bits, check_model, check_model_and_table, code_bounds
from tensorcompiler.ratios import fraction, nearest, over, plus, times, whole

_SHIFT_LIMIT = 30
_FACTOR_LIMIT = 65535


def multiplier(a):
    """Return a pair (m, s) with m / 2^s close to a fraction that is greater than zero."""
    for shift in reversed(range(1, _SHIFT_LIMIT + 1)):
        factor = nearest(times(a, (1 << shift, 1)))
        if factor <= _FACTOR_LIMIT:
            if factor == 0:
                raise TableError("a factor is too small for a multiplier")
            return (factor, shift)
    raise TableError("a factor is too great for a multiplier")


def code_of(pair, bits, x):
    """Return the code of a fraction for a pair of a scale and a zero."""
    check_bits(bits)
    scale, zero = pair
    least, most = code_bounds(bits)
    return limit(nearest(over(x, scale)) + zero, least, most)


def meaning_of(pair, code):
    """Return the fraction that a code means."""
    scale, zero = pair
    return times(scale, (code - zero, 1))


def choose_table(graph, bits):
    """Return a table in which the codes of each node reach over its interval."""
    domains = check_model(graph, bits)
    table = []
    for (kind, args, _), (_, low, high) in zip(graph[0], domains):
        table.append(table[args[0]] if kind in MOVING else _chosen_pair(min(low, 0), max(high, 0), bits))
    return tuple(table)


def check_table(graph, table, bits):
    """Return None if the table fits the model, otherwise raise TableError."""
    check_model_and_table(graph, table, bits)


def _chosen_pair(low, high, bits):
    """Return the pair for an interval in which 0 lies."""
    if low == high:
        return ((1, 1), 0)
    scale = fraction(high - low, (1 << bits) - 2)
    return (scale, -whole(plus((1 << (bits - 1), 1), over((low, 1), scale))))

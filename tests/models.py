"""Models for the tests: drawn ones, their tables, and Part 10 once more, straight from the document, on Fractions."""

from fractions import Fraction
from math import floor
from random import Random

from making import random_graph
from tensorcompiler.graphs import check_graph

MOVING = ("order", "rename", "spread", "cut", "pad", "window")
MODEL_KINDS = ("input", "const", "add", "sub", "mul", "max", "min", "neg", "sum", "dot", "join") + MOVING


def random_model(seed, size=9):
    return random_graph(seed, size, MODEL_KINDS)


def ends(bits):
    return -2 ** (bits - 1), 2 ** (bits - 1) - 1


def near(x):
    return floor(x + Fraction(1, 2))


def pair_of(low, high, bits):
    low, high = min(0, low), max(0, high)
    if low == high:
        return ((1, 1), 0)
    scale = Fraction(high - low, 2 ** bits - 2)
    return ((scale.numerator, scale.denominator), -floor(2 ** (bits - 1) + low / scale))


def plain_table(graph, bits):
    """The table of point 1002."""
    table = []
    for (kind, args, _), (_, low, high) in zip(graph[0], check_graph(graph)):
        table.append(table[args[0]] if kind in MOVING else pair_of(low, high, bits))
    return tuple(table)


def drawn_table(seed, graph, bits):
    """A table that is accepted: each scale a little greater than it must be, with a zero that fits."""
    random = Random(seed)
    a, b = ends(bits)
    table = []
    for (kind, args, _), (_, low, high) in zip(graph[0], check_graph(graph)):
        if kind in MOVING:
            table.append(table[args[0]])
            continue
        while True:
            least, most = min(low, 0), max(high, 0)
            scale = Fraction(most - least, b - a) * Fraction(random.randint(16, 40), 16) or Fraction(random.randint(1, 5), 3)
            if random.random() < 0.3:
                scale = Fraction(max(1, -(-scale.numerator // scale.denominator)))
            zero = min(b, max(a, near(a - least / scale) + random.randint(-1, 2)))
            if scale * (a - zero) <= low and high <= scale * (b - zero) and max(scale.numerator, scale.denominator) <= 2 ** 40:
                break
        table.append(((scale.numerator, scale.denominator), zero))
    return tuple(table)


def multiplier_of(f):
    for s in range(30, 0, -1):
        m = near(f * 2 ** s)
        if m <= 65535:
            return m, s
    raise ArithmeticError


class Writer:
    """Writes the nodes of a quantized graph."""

    def __init__(self, table, bits):
        self.nodes = []
        self.at = []
        self.table, self.bits = table, bits

    def put(self, kind, args, *info):
        self.nodes.append((kind, tuple(args), info))
        return len(self.nodes) - 1

    def less_zero(self, arg):
        zero = self.table[arg][1]
        return self.put("sub", (self.at[arg], self.put("const", (), (), (zero,)))) if zero else self.at[arg]

    def times(self, one, f):
        m, s = multiplier_of(f)
        if m == 2 ** s:
            return one
        number = self.put("const", (), (), (m,))
        return self.put("shift", (self.put("mul", (one, number)),), s)

    def node(self, place, kind, args, info):
        scale = [Fraction(*pair[0]) for pair in self.table]
        zero = self.table[place][1]
        if kind == "input":
            return self.put(kind, (), info[0], *ends(self.bits))
        if kind == "const":
            a, b = ends(self.bits)
            return self.put(kind, (), info[0], tuple(min(b, max(a, near(n / scale[place]) + zero)) for n in info[1]))
        if kind in MOVING and kind != "pad":
            return self.put(kind, (self.at[args[0]],), *info)
        if kind in ("mul", "dot"):
            one, other = self.less_zero(args[0]), self.less_zero(args[1])
            made = self.times(self.put(kind, (one, other), *info), scale[args[0]] * scale[args[1]] / scale[place])
        elif kind in ("neg", "sum", "pad"):
            made = self.put(kind, (self.less_zero(args[0]),), *info)
            if kind != "pad":
                made = self.times(made, scale[args[0]] / scale[place])
        else:
            one = self.times(self.less_zero(args[0]), scale[args[0]] / scale[place])
            other = self.times(self.less_zero(args[1]), scale[args[1]] / scale[place])
            made = self.put(kind, (one, other), *info)
        if zero:
            number = self.put("const", (), (), (zero,))
            made = self.put("add", (made, number))
        return made if kind == "pad" else self.put("clamp", (made,), *ends(self.bits))


def plain_quantized(graph, table, bits):
    """The graph of point 1006."""
    writer = Writer(table, bits)
    for place, (kind, args, info) in enumerate(graph[0]):
        writer.at.append(writer.node(place, kind, args, info))
    return (tuple(writer.nodes), tuple(writer.at[out] for out in graph[1]))


def plain_bounds(graph, table, bits):
    """The bounds of point 1008, as Fractions."""
    a, b = ends(bits)
    domains = check_graph(graph)
    scale = [Fraction(*pair[0]) for pair in table]
    reach = [max(abs(a - zero), abs(b - zero)) for _, zero in table]
    wide = [max(abs(low), abs(high)) for _, low, high in domains]
    e = []

    def step(place, f, t):
        m, s = multiplier_of(f)
        if m == 2 ** s:
            return scale[place] * t * abs(f - 1)
        return scale[place] * (t * abs(f - Fraction(m, 2 ** s)) + Fraction(1, 2))

    for place, (kind, args, info) in enumerate(graph[0]):
        if kind == "input":
            e.append(Fraction(0) if scale[place].numerator == 1 else scale[place] / 2)
            continue
        if kind == "const":
            codes = plain_quantized((graph[0][:place + 1], (place,)), table[:place + 1], bits)[0][-1][2][1]
            e.append(max(abs(n - scale[place] * (code - table[place][1])) for n, code in zip(info[1], codes)))
            continue
        x, y = args[0], args[-1]
        size = dict(domains[x][0]).get(info[0]) if info else None
        if kind in MOVING:
            e.append(e[x])
        elif kind in ("mul", "dot"):
            many = size if kind == "dot" else 1
            e.append(many * (scale[x] * reach[x] * e[y] + wide[y] * e[x])
                     + step(place, scale[x] * scale[y] / scale[place], many * reach[x] * reach[y]))
        elif kind in ("neg", "sum"):
            many = size if kind == "sum" else 1
            e.append(many * e[x] + step(place, scale[x] / scale[place], many * reach[x]))
        else:
            one, other = (e[arg] + step(place, scale[arg] / scale[place], reach[arg]) for arg in (x, y))
            e.append(one + other if kind in ("add", "sub") else max(one, other))
    return [e[out] for out in graph[1]]

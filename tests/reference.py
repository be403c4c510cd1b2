"""The meaning of graphs once more, straight from the tables of the document, for comparison.

A tensor is a dict from index tuples to elements, beside its shape. Nothing here uses the package.
"""

from itertools import product


def all_indexes(shape):
    return list(product(*[range(size) for _, size in shape]))


def tensor(shape, flat):
    return dict(zip(all_indexes(shape), flat))


def limit(n, low, high):
    return low if n < low else high if n > high else n


class Value:
    """A tensor that is asked for the element at the indexes of its own axes."""

    def __init__(self, shape, flat):
        self.shape = shape
        self.cells = tensor(shape, flat)

    def at(self, where, **other):
        where = dict(where)
        where.update(other)
        return self.cells[tuple(where[letter] for letter, _ in self.shape)]

    def size(self, axis):
        return dict(self.shape)[axis]


def pointwise_element(kind, values, info):
    if kind == "add":
        return values[0] + values[1]
    if kind == "sub":
        return values[0] - values[1]
    if kind == "mul":
        return values[0] * values[1]
    if kind == "max":
        return max(values)
    if kind == "min":
        return min(values)
    if kind == "less":
        return int(values[0] < values[1])
    if kind == "equal":
        return int(values[0] == values[1])
    if kind == "neg":
        return -values[0]
    if kind == "clamp":
        return limit(values[0], info[0], info[1])
    if kind == "shift":
        return (values[0] + 2 ** (info[0] - 1)) // 2 ** info[0]
    assert kind == "where"
    return values[1] if values[0] != 0 else values[2]


POINTWISE = ("add", "sub", "mul", "max", "min", "less", "equal", "neg", "clamp", "shift", "where")


def element(kind, info, given, where):
    """The element of a node at the indexes `where`, a dict from letters to indexes."""
    a = given[0]
    if kind in POINTWISE:
        return pointwise_element(kind, [value.at(where) for value in given], info)
    if kind == "sum":
        return sum(a.at(where, **{info[0]: x}) for x in range(a.size(info[0])))
    if kind == "peak":
        return max(a.at(where, **{info[0]: x}) for x in range(a.size(info[0])))
    if kind == "dot":
        b = given[1]
        return sum(a.at(where, **{info[0]: x}) * b.at(where, **{info[0]: x}) for x in range(a.size(info[0])))
    if kind in ("order", "spread"):
        return a.at(where)
    if kind == "rename":
        return a.at(where, **{info[0]: where[info[1]]})
    if kind == "cut":
        return a.at(where, **{info[0]: info[1] + where[info[0]]})
    if kind == "pad":
        x = where[info[0]] - info[1]
        return a.at(where, **{info[0]: x}) if 0 <= x < a.size(info[0]) else 0
    if kind == "join":
        x, size = where[info[0]], a.size(info[0])
        return a.at(where) if x < size else given[1].at(where, **{info[0]: x - size})
    if kind == "window":
        axis, new, _, stride = info
        return a.at(where, **{axis: stride * where[axis] + where[new]})
    if kind == "fold":
        axis, second, stride, _ = info
        return sum(
            a.at(where, **{axis: x, second: y})
            for x in range(a.size(axis)) for y in range(a.size(second))
            if stride * x + y == where[axis])
    assert kind == "gather"
    n = limit(given[1].at(where), 0, a.size(info[0]) - 1)
    return a.at(where, **{info[0]: n})


def slope_element(kind, info, given, slopes, where):
    """The slope of a node at the indexes `where`, by point 301."""
    a = given[0]
    da = slopes[0]
    if kind in ("less", "equal", "shift"):
        return 0
    if kind == "mul":
        return da.at(where) * given[1].at(where) + a.at(where) * slopes[1].at(where)
    if kind == "dot":
        b, db = given[1], slopes[1]
        total = 0
        for x in range(a.size(info[0])):
            on = {info[0]: x}
            total += da.at(where, **on) * b.at(where, **on) + a.at(where, **on) * db.at(where, **on)
        return total
    if kind == "max":
        return (slopes[1] if a.at(where) < given[1].at(where) else da).at(where)
    if kind == "min":
        return (da if a.at(where) < given[1].at(where) else slopes[1]).at(where)
    if kind == "clamp":
        return da.at(where) if info[0] <= a.at(where) <= info[1] else 0
    if kind == "where":
        return (slopes[1] if a.at(where) != 0 else slopes[2]).at(where)
    if kind == "peak":
        row = [a.at(where, **{info[0]: x}) for x in range(a.size(info[0]))]
        return da.at(where, **{info[0]: row.index(max(row))})
    if kind == "gather":
        n = limit(given[1].at(where), 0, a.size(info[0]) - 1)
        return da.at(where, **{info[0]: n})
    return element(kind, info, slopes, where)


def flat_value(shape, make):
    letters = [letter for letter, _ in shape]
    return tuple(make(dict(zip(letters, at))) for at in all_indexes(shape))


def node_values(nodes, shapes, feeds):
    """The elements of all nodes; the shapes of the nodes are given."""
    feeds = list(feeds)
    values = []
    for (kind, args, info), shape in zip(nodes, shapes):
        if kind == "input":
            flat = feeds.pop(0)
        elif kind == "const":
            flat = info[1]
        else:
            given = [Value(shapes[arg], values[arg]) for arg in args]
            flat = flat_value(shape, lambda where: element(kind, info, given, where))
        values.append(tuple(flat))
    return values


def node_slopes(nodes, shapes, feeds, direction):
    """The slopes of all nodes; the shapes of the nodes are given."""
    values = node_values(nodes, shapes, feeds)
    direction = list(direction)
    slopes = []
    for (kind, args, info), shape in zip(nodes, shapes):
        if kind == "input":
            flat = direction.pop(0)
        elif kind == "const":
            flat = (0,) * len(info[1])
        else:
            given = [Value(shapes[arg], values[arg]) for arg in args]
            inner = [Value(shapes[arg], slopes[arg]) for arg in args]
            flat = flat_value(shape, lambda where: slope_element(kind, info, given, inner, where))
        slopes.append(tuple(flat))
    return slopes

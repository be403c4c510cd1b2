"""The items of computed nodes, made from those of their arguments by an arithmetic.

An arithmetic is an object with the methods number(n), make(kind, items, info) for a pointwise kind and
pick(items, index), so that the same steps serve numbers and whatever else can stand for them.
Items stand in row-major order.
"""

from tensorcompiler.kinds import POINTWISE, pointwise
from tensorcompiler.shapes import count_of, steps_of


class Numbers:
    """The arithmetic in which each item is an integer."""

    def number(self, n):
        """Return the item that is a number."""
        return n

    def make(self, kind, items, info):
        """Return what a pointwise kind makes of items."""
        return pointwise(kind, items, info)

    def pick(self, items, index):
        """Return the item at the index."""
        return items[index]


def all_items(arithmetic, nodes, domains, fed):
    """Return the items of all nodes with these domains; fed has those of each input, by its index."""
    found = []
    for place, node in enumerate(nodes):
        kind, args, info = node
        if kind == "input":
            found.append(fed[place])
        elif kind == "const":
            found.append(tuple([arithmetic.number(n) for n in info[1]]))
        else:
            shapes = [domains[arg][0] for arg in args]
            found.append(compute(arithmetic, node, domains[place][0], shapes, [found[arg] for arg in args]))
    return tuple(found)


def compute(arithmetic, node, shape, shapes, values):
    """Return the items of a node of this shape from the shapes and the items of its arguments."""
    kind = node[0]
    if kind in POINTWISE:
        return _pointwise_items(arithmetic, node, shape, shapes, values)
    maker = _MAKERS[kind]
    return tuple(maker(arithmetic, node[2], shape, shapes, values))


def _spots(shape, steps, start):
    """Return the position for each index of the shape: start plus the steps, 0 for a letter without one."""
    spots = [start]
    for letter, size in shape:
        step = steps.get(letter, 0)
        spots = [spot + step * index for spot in spots for index in range(size)]
    return spots


def _rows(shape, given, axis):
    """Return for each index of the shape the positions in a given shape along an axis that only this one has."""
    steps = steps_of(given)
    sizes = dict(given)
    along = [steps[axis] * index for index in range(sizes[axis])]
    return [[spot + far for far in along] for spot in _spots(shape, steps, 0)]


def _pointwise_items(arithmetic, node, shape, shapes, values):
    kind, _, info = node
    columns = []
    for given, items in zip(shapes, values):
        columns.append([items[spot] for spot in _spots(shape, steps_of(given), 0)])
    many = count_of(shape)
    return tuple([arithmetic.make(kind, tuple([column[at] for column in columns]), info) for at in range(many)])


def _total(arithmetic, items):
    total = arithmetic.number(0)
    for item in items:
        total = arithmetic.make("add", (total, item), ())
    return total


def _sum_items(arithmetic, info, shape, shapes, values):
    rows = _rows(shape, shapes[0], info[0])
    return [_total(arithmetic, [values[0][spot] for spot in row]) for row in rows]


def _peak_items(arithmetic, info, shape, shapes, values):
    found = []
    for row in _rows(shape, shapes[0], info[0]):
        best = values[0][row[0]]
        for spot in row[1:]:
            best = arithmetic.make("max", (best, values[0][spot]), ())
        found.append(best)
    return found


def _dot_items(arithmetic, info, shape, shapes, values):
    a, b = values
    found = []
    for ours, others in zip(_rows(shape, shapes[0], info[0]), _rows(shape, shapes[1], info[0])):
        products = [arithmetic.make("mul", (a[one], b[two]), ()) for one, two in zip(ours, others)]
        found.append(_total(arithmetic, products))
    return found


def _gather_items(arithmetic, info, shape, shapes, values):
    a, i = values
    found = []
    spots = _spots(shape, steps_of(shapes[1]), 0)
    for row, spot in zip(_rows(shape, shapes[0], info[0]), spots):
        index = arithmetic.make("clamp", (i[spot],), (0, len(row) - 1))
        found.append(arithmetic.pick(tuple([a[place] for place in row]), index))
    return found


def _read(shape, steps, start, items):
    return [items[spot] for spot in _spots(shape, steps, start)]


def _plain_items(arithmetic, info, shape, shapes, values):
    return _read(shape, steps_of(shapes[0]), 0, values[0])


def _rename_items(arithmetic, info, shape, shapes, values):
    axis, new = info
    steps = steps_of(shapes[0])
    steps[new] = steps[axis]
    return _read(shape, steps, 0, values[0])


def _cut_items(arithmetic, info, shape, shapes, values):
    axis, start, _ = info
    steps = steps_of(shapes[0])
    return _read(shape, steps, start * steps[axis], values[0])


def _window_items(arithmetic, info, shape, shapes, values):
    axis, new, _, stride = info
    steps = steps_of(shapes[0])
    steps[new] = steps[axis]
    steps[axis] = stride * steps[axis]
    return _read(shape, steps, 0, values[0])


def _gathered(arithmetic, shape, spots, items):
    """Return the sums of all items that have the same spot, nought where there is none."""
    found = [arithmetic.number(0)] * count_of(shape)
    for spot, item in zip(spots, items):
        found[spot] = arithmetic.make("add", (found[spot], item), ())
    return found


def _pad_items(arithmetic, info, shape, shapes, values):
    axis, before, _ = info
    steps = steps_of(shape)
    return _gathered(arithmetic, shape, _spots(shapes[0], steps, before * steps[axis]), values[0])


def _join_items(arithmetic, info, shape, shapes, values):
    axis = info[0]
    steps = steps_of(shape)
    sizes = dict(shapes[0])
    spots = _spots(shapes[0], steps, 0) + _spots(shapes[1], steps, sizes[axis] * steps[axis])
    return _gathered(arithmetic, shape, spots, list(values[0]) + list(values[1]))


def _fold_items(arithmetic, info, shape, shapes, values):
    axis, second, stride, _ = info
    steps = steps_of(shape)
    steps[second] = steps[axis]
    steps[axis] = stride * steps[axis]
    return _gathered(arithmetic, shape, _spots(shapes[0], steps, 0), values[0])


_MAKERS = {
    "sum": _sum_items, "peak": _peak_items, "dot": _dot_items, "gather": _gather_items,
    "order": _plain_items, "rename": _rename_items, "spread": _plain_items, "cut": _cut_items,
    "window": _window_items, "pad": _pad_items, "join": _join_items, "fold": _fold_items,
}

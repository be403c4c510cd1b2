"""The expressions for the elements of nodes, at places that affine forms give.

A place, `where`, is a dict with an affine form for each letter of the node, and perhaps for others.
"""

from tensorcompiler.affine import constant, minus, plus, shifted, times
from tensorcompiler.kinds import POINTWISE
from tensorcompiler.shapes import steps_of


class Values:
    """The nodes of a graph with their shapes, and the buffers in which the values of some of them stand."""

    def __init__(self, nodes, shapes, buffers):
        self.nodes = nodes
        self.shapes = shapes
        self.buffers = buffers

    def size(self, node, axis):
        """Return the size of an axis of a node."""
        sizes = dict(self.shapes[node])
        return sizes[axis]

    def word(self, node, where):
        """Return the form of the position of an element of a node."""
        steps = steps_of(self.shapes[node])
        total = constant(0)
        for letter, _ in self.shapes[node]:
            total = plus(total, times(where[letter], steps[letter]))
        return total

    def load(self, node, where):
        """Return the expression that loads an element of a node with a buffer."""
        return ("load", self.buffers[node], self.word(node, where))

    def element(self, node, where):
        """Return the expression for an element: a load where the node has a buffer, otherwise its value."""
        if self.buffers[node] is not None:
            return self.load(node, where)
        return self.value(node, where)

    def value(self, node, where):
        """Return the expression that makes an element of a computed node that is not reducing."""
        kind, given, info = self.nodes[node]
        if kind in POINTWISE:
            return ("apply", kind, tuple([self.element(arg, where) for arg in given]), info)
        maker = _MAKERS[kind]
        return maker(self, given, info, where)


def _value_elsewhere(values, args, axis, where, form):
    """Return the expression for an element of the first arg, with the form for the axis."""
    return values.element(args[0], {**where, axis: form})


def _same_value(values, args, info, where):
    return values.element(args[0], where)


def _rename_value(values, args, info, where):
    axis, new = info
    return _value_elsewhere(values, args, axis, where, where[new])


def _cut_value(values, args, info, where):
    axis, start, _ = info
    return _value_elsewhere(values, args, axis, where, shifted(where[axis], start))


def _pad_value(values, args, info, where):
    axis, before, _ = info
    form = shifted(where[axis], -before)
    left = minus(constant(values.size(args[0], axis) - 1), form)
    nought = ("number", 0)
    return ("guard", form, ("guard", left, _value_elsewhere(values, args, axis, where, form), nought), nought)


def _join_value(values, args, info, where):
    axis = info[0]
    form = where[axis]
    size = values.size(args[0], axis)
    behind = values.element(args[1], {**where, axis: shifted(form, -size)})
    return ("guard", minus(constant(size - 1), form), values.element(args[0], where), behind)


def _window_value(values, args, info, where):
    axis, new, _, stride = info
    return _value_elsewhere(values, args, axis, where, plus(times(where[axis], stride), where[new]))


def _gather_value(values, args, info, where):
    a, i = args
    axis = info[0]
    start = values.word(a, {**where, axis: constant(0)})
    steps = steps_of(values.shapes[a])
    return ("pick", values.buffers[a], start, steps[axis], values.size(a, axis), values.element(i, where))


_MAKERS = {
    "order": _same_value, "rename": _rename_value, "spread": _same_value, "cut": _cut_value, "pad": _pad_value,
    "join": _join_value, "window": _window_value, "gather": _gather_value,
}

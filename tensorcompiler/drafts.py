"""Graphs in the making: nodes are put behind one another and checked only when all are there."""

from tensorcompiler.shapes import count_of


class Draft:
    """The nodes of a graph so far."""

    def __init__(self, nodes):
        self.nodes = list(nodes)

    def put(self, kind, args, info):
        """Put a node behind the others and return its index."""
        self.nodes.append((kind, args, info))
        return len(self.nodes) - 1

    def put_number(self, n):
        """Put a const with the empty shape and return its index."""
        return self.put("const", (), ((), (n,)))

    def put_zeros(self, shape):
        """Put a const of this shape with data 0 and return its index."""
        return self.put("const", (), (shape, (0,) * count_of(shape)))

    def put_count(self, axis, size):
        """Put a const that holds its index on its only axis and return its index."""
        return self.put("const", (), (((axis, size),), tuple(range(size))))

    def put_mask(self, a, peak, axis, size):
        """Put the nodes that are 1 at the first of the greatest of a along the axis, and 0 elsewhere."""
        greatest = self.put("equal", (a, peak), ())
        count = self.put_count(axis, size)
        behind = self.put_number(size)
        candidates = self.put("where", (greatest, count, behind), ())
        # The least candidate is the first one, and there is no kind for the least along an axis.
        negated = self.put("neg", (candidates,), ())
        last = self.put("peak", (negated,), (axis,))
        first = self.put("neg", (last,), ())
        return self.put("equal", (count, first), ())

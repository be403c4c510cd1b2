"""The graph of the gradient: derivatives of a weighted sum of the outputs, in reverse mode."""

from tensorcompiler.drafts import Draft
from tensorcompiler.errors import RangeError
from tensorcompiler.graphs import check_graph, input_places
from tensorcompiler.result_shapes import size_along
from tensorcompiler.shapes import letters_of, merged, replaced


class Backward:
    """A gradient in the making: the draft, and the parts that each node of the graph has received."""

    def __init__(self, graph, domains):
        self.nodes = graph[0]
        self.shapes = [domain[0] for domain in domains]
        self.draft = Draft(self.nodes)
        self.parts = [[] for _ in self.nodes]

    def given(self, node):
        """Return the args of a node of the graph."""
        return self.nodes[node][1]

    def fields(self, node):
        """Return the fields of a node of the graph."""
        return self.nodes[node][2]

    def size(self, node, axis):
        """Return the size of an axis of a node of the graph."""
        return size_along(self.shapes[node], axis)

    def total(self, node):
        """Return the total of the parts of a node, or None without parts."""
        total = None
        for part in self.parts[node]:
            total = part if total is None else self.draft.put("add", (total, part), ())
        return total

    def send(self, node, part):
        """Give a node a part that has its shape."""
        self.parts[node].append(part)

    def send_fitted(self, node, part, shape):
        """Fit a part of the given shape to a node, and give it to the node."""
        wanted = letters_of(self.shapes[node])
        left = shape
        for letter, _ in shape:
            if letter not in wanted:
                part = self.draft.put("sum", (part,), (letter,))
                left = replaced(left, letter, ())
        if letters_of(left) != wanted:
            part = self.draft.put("order", (part,), (wanted,))
        self.send(node, part)


def gradient_graph(graph, low, high):
    """Return the graph of the gradient, with weights from low to high."""
    domains = check_graph(graph)
    if low > high:
        raise RangeError("the interval of the weights is empty")
    made = made_gradient(graph, low, high, domains)
    check_graph(made)
    return made


def made_gradient(graph, low, high, domains):
    """Return the graph of the gradient without checking it."""
    nodes, outs = graph
    work = Backward(graph, domains)
    for out in outs:
        work.send(out, work.draft.put("input", (), (work.shapes[out], low, high)))
    totals = {}
    for place in reversed(range(len(nodes))):
        total = work.total(place)
        if total is not None:
            totals[place] = total
            sender = _SENDERS[nodes[place][0]]
            sender(work, place, total)
    found = []
    for place in input_places(nodes):
        if place in totals:
            found.append(totals[place])
        else:
            found.append(work.draft.put_zeros(work.shapes[place]))
    return (tuple(work.draft.nodes), tuple(found))


# Each function below is given the total of the node at the place, and sends parts to its args.

def _send_nothing(work, place, total):
    """A node of this kind has no slope that depends on that of its args."""


def _send_add(work, place, total):
    a, b = work.given(place)
    work.send_fitted(a, total, work.shapes[place])
    work.send_fitted(b, total, work.shapes[place])


def _send_sub(work, place, total):
    a, b = work.given(place)
    work.send_fitted(a, total, work.shapes[place])
    work.send_fitted(b, work.draft.put("neg", (total,), ()), work.shapes[place])


def _send_mul(work, place, total):
    a, b = work.given(place)
    work.send_fitted(a, work.draft.put("mul", (total, b), ()), work.shapes[place])
    work.send_fitted(b, work.draft.put("mul", (total, a), ()), work.shapes[place])


def _send_dot(work, place, total):
    a, b = work.given(place)
    _send_product(work, a, total, b, work.shapes[place])
    _send_product(work, b, total, a, work.shapes[place])


def _send_product(work, node, total, other, shape):
    """Send to a node the product, for it, of a total of the shape and another node."""
    both = merged(shape, work.shapes[other])
    wanted = letters_of(work.shapes[node])
    outer = [letter for letter, _ in both if letter not in wanted]
    if len(outer) == 0:
        work.send_fitted(node, work.draft.put("mul", (total, other), ()), both)
    else:
        made = work.draft.put("dot", (total, other), (outer[0],))
        work.send_fitted(node, made, replaced(both, outer[0], ()))


def _send_choice(work, place, test, nodes, choices):
    """Send to each node what the test chooses for it of the pair in choices."""
    for node, (one, other) in zip(nodes, choices):
        work.send_fitted(node, work.draft.put("where", (test, one, other), ()), work.shapes[place])


def _send_max(work, place, total):
    args = work.given(place)
    less = work.draft.put("less", args, ())
    zero = work.draft.put_number(0)
    _send_choice(work, place, less, args, ((zero, total), (total, zero)))


def _send_min(work, place, total):
    args = work.given(place)
    less = work.draft.put("less", args, ())
    zero = work.draft.put_number(0)
    _send_choice(work, place, less, args, ((total, zero), (zero, total)))


def _send_where(work, place, total):
    c, a, b = work.given(place)
    zero = work.draft.put_number(0)
    _send_choice(work, place, c, (a, b), ((total, zero), (zero, total)))


def _send_clamp(work, place, total):
    a = work.given(place)[0]
    kept = work.draft.put("equal", (a, place), ())
    zero = work.draft.put_number(0)
    _send_choice(work, place, kept, (a,), ((total, zero),))


def _send_neg(work, place, total):
    a = work.given(place)[0]
    work.send(a, work.draft.put("neg", (total,), ()))


def _send_sum(work, place, total):
    a = work.given(place)[0]
    axis = work.fields(place)[0]
    size = work.size(a, axis)
    made = work.draft.put("spread", (total,), (axis, size))
    work.send_fitted(a, made, work.shapes[place] + ((axis, size),))


def _send_peak(work, place, total):
    a = work.given(place)[0]
    axis = work.fields(place)[0]
    size = work.size(a, axis)
    mask = work.draft.put_mask(a, place, axis, size)
    zero = work.draft.put_number(0)
    made = work.draft.put("where", (mask, total, zero), ())
    work.send_fitted(a, made, ((axis, size),) + work.shapes[place])


def _send_order(work, place, total):
    a = work.given(place)[0]
    work.send(a, work.draft.put("order", (total,), (letters_of(work.shapes[a]),)))


def _send_rename(work, place, total):
    a = work.given(place)[0]
    axis, new = work.fields(place)
    work.send(a, work.draft.put("rename", (total,), (new, axis)))


def _send_spread(work, place, total):
    a = work.given(place)[0]
    axis, _ = work.fields(place)
    work.send(a, work.draft.put("sum", (total,), (axis,)))


def _send_cut(work, place, total):
    a = work.given(place)[0]
    axis, start, count = work.fields(place)
    work.send(a, work.draft.put("pad", (total,), (axis, start, work.size(a, axis) - start - count)))


def _send_pad(work, place, total):
    a = work.given(place)[0]
    axis, before, _ = work.fields(place)
    work.send(a, work.draft.put("cut", (total,), (axis, before, work.size(a, axis))))


def _send_join(work, place, total):
    a, b = work.given(place)
    axis = work.fields(place)[0]
    work.send(a, work.draft.put("cut", (total,), (axis, 0, work.size(a, axis))))
    work.send(b, work.draft.put("cut", (total,), (axis, work.size(a, axis), work.size(b, axis))))


def _send_window(work, place, total):
    a = work.given(place)[0]
    axis, new, _, stride = work.fields(place)
    work.send(a, work.draft.put("fold", (total,), (axis, new, stride, work.size(a, axis))))


def _send_fold(work, place, total):
    a = work.given(place)[0]
    axis, second, stride, size = work.fields(place)
    width = work.size(a, second)
    many = work.size(a, axis)
    made = work.draft.put("window", (total,), (axis, second, width, stride))
    if (size - width) // stride + 1 > many:
        made = work.draft.put("cut", (made,), (axis, 0, many))
    work.send_fitted(a, made, replaced(work.shapes[place], axis, ((axis, many), (second, width))))


def _send_gather(work, place, total):
    a, i = work.given(place)
    axis = work.fields(place)[0]
    size = work.size(a, axis)
    count = work.draft.put_count(axis, size)
    index = work.draft.put("clamp", (i,), (0, size - 1))
    chosen = work.draft.put("equal", (count, index), ())
    zero = work.draft.put_number(0)
    made = work.draft.put("where", (chosen, total, zero), ())
    work.send_fitted(a, made, merged(((axis, size),) + work.shapes[i], work.shapes[place]))


_SENDERS = {
    "input": _send_nothing, "const": _send_nothing, "less": _send_nothing, "equal": _send_nothing,
    "shift": _send_nothing, "add": _send_add, "sub": _send_sub, "mul": _send_mul, "dot": _send_dot,
    "max": _send_max, "min": _send_min, "neg": _send_neg, "clamp": _send_clamp, "where": _send_where,
    "sum": _send_sum, "peak": _send_peak, "order": _send_order, "rename": _send_rename,
    "spread": _send_spread, "cut": _send_cut, "pad": _send_pad, "join": _send_join,
    "window": _send_window, "fold": _send_fold, "gather": _send_gather,
}

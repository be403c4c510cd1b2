"""The graph of the slopes: derivatives along a direction, in forward mode."""

from tensorcompiler.drafts import Draft
from tensorcompiler.errors import RangeError
from tensorcompiler.graphs import check_graph
from tensorcompiler.result_shapes import size_along


def tangent_graph(graph, low, high):
    """Return the graph of the slopes, with directions from low to high."""
    domains = check_graph(graph)
    if low > high:
        raise RangeError("the interval of the directions is empty")
    made = _made_tangents(graph, low, high, domains)
    check_graph(made)
    return made


def _made_tangents(graph, low, high, domains):
    nodes, outs = graph
    draft = Draft(())
    places = []
    slopes = []
    for (kind, args, info), (shape, _, _) in zip(nodes, domains):
        node = (kind, tuple([places[arg] for arg in args]), info)
        place = draft.put(kind, node[1], info)
        if kind == "input":
            slope = draft.put("input", (), (shape, low, high))
        else:
            maker = _MAKERS[kind]
            shapes = [domains[arg][0] for arg in args] + [shape]
            slope = maker(draft, node, place, [slopes[arg] for arg in args], shapes)
        places.append(place)
        slopes.append(slope)
    return (tuple(draft.nodes), tuple([slopes[out] for out in outs]))


# Each function below puts the nodes of the slope of a node that stands at the place, and returns the
# last one. The shapes are those of its args and then its own.

def _put_zeros(draft, node, place, slopes, shapes):
    return draft.put_zeros(shapes[-1])


def _put_same(draft, node, place, slopes, shapes):
    return draft.put(node[0], tuple(slopes), node[2])


def _put_product(draft, node, place, slopes, shapes):
    kind, (a, b), info = node
    first = draft.put(kind, (slopes[0], b), info)
    second = draft.put(kind, (a, slopes[1]), info)
    return draft.put("add", (first, second), ())


def _put_max(draft, node, place, slopes, shapes):
    less = draft.put("less", node[1], ())
    return draft.put("where", (less, slopes[1], slopes[0]), ())


def _put_min(draft, node, place, slopes, shapes):
    less = draft.put("less", node[1], ())
    return draft.put("where", (less, slopes[0], slopes[1]), ())


def _put_clamp(draft, node, place, slopes, shapes):
    kept = draft.put("equal", (node[1][0], place), ())
    zero = draft.put_number(0)
    return draft.put("where", (kept, slopes[0], zero), ())


def _put_where(draft, node, place, slopes, shapes):
    return draft.put("where", (node[1][0], slopes[1], slopes[2]), ())


def _put_gather(draft, node, place, slopes, shapes):
    return draft.put("gather", (slopes[0], node[1][1]), node[2])


def _put_peak(draft, node, place, slopes, shapes):
    axis = node[2][0]
    mask = draft.put_mask(node[1][0], place, axis, size_along(shapes[0], axis))
    zero = draft.put_number(0)
    chosen = draft.put("where", (mask, slopes[0], zero), ())
    return draft.put("sum", (chosen,), (axis,))


_MAKERS = {
    "const": _put_zeros, "less": _put_zeros, "equal": _put_zeros, "shift": _put_zeros,
    "add": _put_same, "sub": _put_same, "join": _put_same, "neg": _put_same, "sum": _put_same,
    "order": _put_same, "rename": _put_same, "spread": _put_same, "cut": _put_same, "pad": _put_same,
    "window": _put_same, "fold": _put_same, "mul": _put_product, "dot": _put_product, "max": _put_max,
    "min": _put_min, "clamp": _put_clamp, "where": _put_where, "gather": _put_gather, "peak": _put_peak,
}

"""Lowering: from a graph to a loop program."""

from tensorcompiler.affine import constant, of_variable, plus, times
from tensorcompiler.element_values import Values
from tensorcompiler.errors import KeptError, TooLarge
from tensorcompiler.graphs import check_graph
from tensorcompiler.loops import LEVEL_LIMIT, check_program
from tensorcompiler.shapes import count_of

_REDUCING = ("sum", "peak", "dot", "fold")

# By how many levels the expression that makes an element is higher than those for the elements of the args.
_LEVELS_ADDED = {
    "sum": 1, "dot": 2, "fold": 1, "order": 0, "rename": 0, "spread": 0, "cut": 0, "window": 0, "pad": 2,
}


def lower(graph, kept):
    """Return the program that computes the kept nodes, and for each node its buffer or None."""
    domains = check_graph(graph)
    nodes = graph[0]
    _check_kept(graph, kept)
    shapes = [domain[0] for domain in domains]
    given = [place for place in range(len(nodes)) if not _is_computed(nodes[place])]
    places = [None] * len(nodes)
    for buffer, place in enumerate(given + list(kept)):
        places[place] = buffer
    _check_levels(nodes, shapes, places)
    values = Values(nodes, shapes, places)
    buffers = [("in", count_of(shapes[place])) for place in given]
    buffers.extend([("main", count_of(shapes[place])) for place in kept])
    body = []
    for node in kept:
        body.extend(_statements(values, node))
    program = (tuple(buffers), tuple(body))
    check_program(program)
    return (program, tuple(places))


def _is_computed(node):
    return node[0] != "input" and node[0] != "const"


def _check_kept(graph, kept):
    nodes, outs = graph
    before = -1
    for place in kept:
        if place <= before or place >= len(nodes) or not _is_computed(nodes[place]):
            raise KeptError("what is kept are not computed nodes in ascending order")
        before = place
    wanted = list(outs)
    for place, (kind, args, _) in enumerate(nodes):
        if kind in _REDUCING:
            wanted.append(place)
        if kind == "gather":
            wanted.append(args[0])
    held = {place: True for place in kept}
    for place in wanted:
        if _is_computed(nodes[place]) and place not in held:
            raise KeptError("a node is not kept that must be kept")


def _check_levels(nodes, shapes, places):
    """Raise TooLarge if an expression would have too many levels, before any expression is made."""
    levels = []
    for place, (kind, args, info) in enumerate(nodes):
        level = 1
        if _is_computed(nodes[place]):
            # The first arg of a gather is picked from, not evaluated.
            read = args[1:] if kind == "gather" else args
            level = max([levels[arg] for arg in read]) + _levels_added(kind, info, shapes[args[0]])
        if places[place] is not None and level > LEVEL_LIMIT:
            raise TooLarge("an expression would have too many levels")
        levels.append(level if places[place] is None else 1)


def _levels_added(kind, info, shape):
    if kind == "peak":
        sizes = dict(shape)
        return 1 if sizes[info[0]] > 1 else 0
    return _LEVELS_ADDED.get(kind, 1)


def _statements(values, node):
    """Return the statements that make a kept node."""
    kind = values.nodes[node][0]
    if kind in _MAKERS:
        maker = _MAKERS[kind]
        return maker(values, node)
    where = _nest_place(values.shapes[node])
    return _nest(values.shapes[node], (_put(values, node, where, values.value(node, where)),))


def _nest_place(shape):
    """Return for each letter of the shape the form of the variable of its loop."""
    return {letter: of_variable(number) for number, (letter, _) in enumerate(shape)}


def _nest(shape, statements):
    """Return loops over the axes of the shape around the statements, a tuple of statements."""
    body = statements
    for number, (_, size) in reversed(list(enumerate(shape))):
        body = (("loop", number, 0, 1, size, body),)
    return body


def _put(values, node, where, expr):
    return ("put", values.buffers[node], values.word(node, where), expr)


def _put_more(values, node, where, kind, expr):
    """Return the put of what a kind makes of the word that is there and an expression."""
    return _put(values, node, where, ("apply", kind, (values.load(node, where), expr), ()))


def _total_statements(values, node):
    kind, args, info = values.nodes[node]
    axis = info[0]
    shape = values.shapes[node]
    where = _nest_place(shape)
    inside = {**where, axis: of_variable(len(shape))}
    found = [values.element(arg, inside) for arg in args]
    value = ("apply", "mul", tuple(found), ()) if kind == "dot" else found[0]
    more = _put_more(values, node, where, "add", value)
    rows = ("loop", len(shape), 0, 1, values.size(args[0], axis), (more,))
    return _nest(shape, (_put(values, node, where, ("number", 0)), rows))


def _peak_statements(values, node):
    _, args, info = values.nodes[node]
    axis = info[0]
    shape = values.shapes[node]
    where = _nest_place(shape)
    first = values.element(args[0], {**where, axis: constant(0)})
    statements = [_put(values, node, where, first)]
    rest = values.size(args[0], axis) - 1
    if rest > 0:
        value = values.element(args[0], {**where, axis: of_variable(len(shape))})
        more = _put_more(values, node, where, "max", value)
        statements.append(("loop", len(shape), 1, 1, rest, (more,)))
    return _nest(shape, tuple(statements))


def _fold_statements(values, node):
    _, args, info = values.nodes[node]
    axis, second, stride, _ = info
    shape = values.shapes[node]
    first = _nest(shape, (_put(values, node, _nest_place(shape), ("number", 0)),))
    inside = _nest_place(values.shapes[args[0]])
    where = {**inside, axis: plus(times(inside[axis], stride), inside[second])}
    more = _put_more(values, node, where, "add", values.element(args[0], inside))
    return first + _nest(values.shapes[args[0]], (more,))


_MAKERS = {"sum": _total_statements, "dot": _total_statements, "peak": _peak_statements, "fold": _fold_statements}

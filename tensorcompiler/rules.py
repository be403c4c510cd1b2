"""Rewriting: a rule turns one node of a graph into others that make the same value."""

from tensorcompiler.errors import RuleError, TensorError
from tensorcompiler.graphs import check_graph
from tensorcompiler.kinds import ARG_COUNTS
from tensorcompiler.rule_conditions import condition_holds, further_fields
from tensorcompiler.rule_rows import LEFT_ROWS, RIGHT_ROWS

RULES = (
    "add-swap", "add-left", "add-right", "mul-swap", "mul-left", "mul-right", "mul-over", "mul-out",
    "sub-neg", "neg-sub", "neg-neg", "add-zero", "mul-one", "sum-add", "add-sum", "sum-dot", "dot-sum",
    "sum-mul", "mul-sum", "dot-left", "dot-right", "order-order", "order-none", "clamp-clamp", "clamp-none",
    "max-same", "max-left", "less-known", "where-same", "cut-pad",
)


def apply_rule(graph, rule, node):
    """Return the graph after the rule at the node, or raise RuleError."""
    domains = check_graph(graph)
    check_rule(rule)
    return rewritten(graph, domains, rule, node)[0]


def check_rule(rule):
    """Raise RuleError if there is no such rule."""
    if rule not in RULES:
        raise RuleError("there is no such rule")


def rewritten(graph, domains, rule, node):
    """Return the graph after a known rule at the node and its domains, from a checked graph and its domains."""
    nodes, outs = graph
    if node < 0 or node >= len(nodes):
        raise RuleError("there is no such node")
    side = right_side(nodes, domains, rule, node)
    if side is None:
        raise RuleError(f"the rule {rule} does not apply to the node")
    made, place = side
    result = _with_nodes(nodes, outs, node, made, place)
    try:
        checked = check_graph(result)
    except TensorError:
        raise RuleError(f"the rule {rule} does not leave a valid graph") from None
    if checked[place][0] != domains[node][0]:
        raise RuleError(f"the rule {rule} changes the shape of the node")
    return (result, checked)


def right_side(nodes, domains, rule, node):
    """Return the new nodes, and the index of what takes the place of the node; None if the rule does not apply."""
    found = _match(nodes, rule, node)
    if found is None or not condition_holds(rule, domains, found):
        return None
    found.update(further_fields(rule, domains, found))
    return _made_nodes(rule, node, found)


def _match(nodes, rule, node):
    """Return what the names on the left side of the rule stand for, or None if the node is another one."""
    found = {"n": node}
    for row in LEFT_ROWS[rule]:
        words = row.split(" ")
        kind, args, info = nodes[found[words[0]]]
        if kind != words[1]:
            return None
        for word, value in zip(words[2:], args + info):
            if found.setdefault(word, value) != value:
                return None
    return found


def _made_nodes(rule, node, found):
    """Return the new nodes, and the index of what takes the place of the node."""
    made = []
    names = dict(found)
    place = node
    for row in RIGHT_ROWS[rule]:
        words = row.split(" ")
        if len(words) == 1:
            place = names[words[0]]
        else:
            values = tuple([names[word] for word in words[2:]])
            many = ARG_COUNTS[words[1]]
            place = node + len(made)
            made.append((words[1], values[:many], values[many:]))
            names[words[0]] = place
    return (made, place)


def _with_nodes(nodes, outs, node, made, place):
    """Return the graph with the nodes in made instead of the node, and what is at the place instead of its value."""
    moved = len(made) - 1
    places = []
    for index in range(len(nodes)):
        places.append(index if index < node else index + moved)
    places[node] = place
    result = list(nodes[:node]) + made
    for kind, args, info in nodes[node + 1:]:
        result.append((kind, tuple([places[arg] for arg in args]), info))
    return (tuple(result), tuple([places[out] for out in outs]))

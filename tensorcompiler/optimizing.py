"""Optimizing: steps of rewriting that lower the cost of a graph, one at a time."""

from tensorcompiler.domains import domain_of
from tensorcompiler.errors import RangeError, RuleError, TensorError
from tensorcompiler.graphs import check_graph, work_of, work_of_node
from tensorcompiler.rules import RULES, rewritten, right_side
from tensorcompiler.tidying import prune

_FUEL_LIMIT = 50


def cost_of(graph):
    """Return the work of the pruned graph."""
    return work_of(prune(graph))


def optimize(graph, fuel):
    """Return at most fuel steps, and the graph after them, which no single further step makes cheaper."""
    domains = check_graph(graph)
    if fuel < 0 or fuel > _FUEL_LIMIT:
        raise RangeError(f"the fuel is not from 0 to {_FUEL_LIMIT}")
    steps = []
    while len(steps) < fuel:
        found = _cheaper(graph, domains)
        if found is None:
            break
        step, graph, domains = found
        steps.append(step)
    return (tuple(steps), graph)


def _cheaper(graph, domains):
    """Return the step that lowers the cost most, with the graph after it and its domains, or None."""
    # A step that lowers the cost can still leave a graph that is not valid, so the next best is tried then.
    for _, node, place in sorted(_gains(graph, domains)):
        rule = RULES[place]
        try:
            result, checked = rewritten(graph, domains, rule, node)
        except RuleError:
            continue
        return ((rule, node), result, checked)
    return None


def _gains(graph, domains):
    """Return for each step that lowers the cost by how much the cost grows, the node and the index of the rule."""
    nodes, outs = graph
    works = [work_of_node(node, domain, domains) for node, domain in zip(nodes, domains)]
    uses = _uses(nodes, outs)
    found = []
    for node in range(len(nodes)):
        # A node that no output needs costs nothing, whatever it becomes.
        if uses[node] > 0:
            for place, rule in enumerate(RULES):
                growth = _growth(nodes, domains, works, uses, rule, node)
                if growth < 0:
                    found.append((growth, node, place))
    return found


def _uses(nodes, outs):
    """Return for each node how often it is an output or an arg of a node that some output needs."""
    uses = [0] * len(nodes)
    for out in outs:
        uses[out] = uses[out] + 1
    for place in reversed(range(len(nodes))):
        if uses[place] > 0:
            for arg in nodes[place][1]:
                uses[arg] = uses[arg] + 1
    return uses


def _growth(nodes, domains, works, uses, rule, node):
    """Return by how much a rule at a needed node makes the cost grow, 0 if it cannot be applied."""
    side = right_side(nodes, domains, rule, node)
    if side is None:
        return 0
    made, place = side
    known = list(domains[:node])
    added = 0
    for one in made:
        try:
            domain = domain_of(one, known)
        except TensorError:
            return 0
        added = added + work_of_node(one, domain, known)
        known.append(domain)
    return added - _spared(nodes, works, uses, node, made, place)


def _spared(nodes, works, uses, node, made, place):
    """Return the work of the node and of all nodes that nothing needs any more without it."""
    changes = {}
    for _, args, _ in made:
        for arg in args:
            changes[arg] = changes.get(arg, 0) + 1
    if place < node:
        changes[place] = uses[node]
    spared = 0
    going = [node]
    while len(going) > 0:
        gone = going.pop()
        spared = spared + works[gone]
        for arg in nodes[gone][1]:
            changes[arg] = changes.get(arg, 0) - 1
            if uses[arg] + changes[arg] == 0:
                going.append(arg)
    return spared

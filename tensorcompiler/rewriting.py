"""Rewriting in several steps, and where a rule can be applied."""

from tensorcompiler.errors import RuleError
from tensorcompiler.graphs import check_graph
from tensorcompiler.rules import check_rule, rewritten


def sites(graph, rule):
    """Return in ascending order the nodes at which the rule can be applied."""
    domains = check_graph(graph)
    check_rule(rule)
    return tuple([node for node in range(len(graph[0])) if _applies(graph, domains, rule, node)])


def replay(graph, steps):
    """Return the graph after all steps, each a pair (rule, node)."""
    domains = check_graph(graph)
    for rule, node in steps:
        check_rule(rule)
        graph, domains = rewritten(graph, domains, rule, node)
    return graph


def _applies(graph, domains, rule, node):
    try:
        rewritten(graph, domains, rule, node)
    except RuleError:
        return False
    return True

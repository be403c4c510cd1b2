"""Schedules that are made for a graph."""

from tensorcompiler.graphs import check_graph
from tensorcompiler.lives import lives
from tensorcompiler.lowering import lower
from tensorcompiler.machines import check_machine
from tensorcompiler.placing import choose_places
from tensorcompiler.shapes import count_of


def default_schedule(graph):
    """Return the schedule that keeps all computed nodes and places them one behind the other."""
    domains = check_graph(graph)
    kept = _computed(graph[0])
    places = []
    behind = 0
    for node in kept:
        places.append(behind)
        behind = behind + count_of(domains[node][0])
    return ((), kept, (), tuple(places))


def tuned_schedule(graph, machine):
    """Return the schedule that keeps all computed nodes and uses words again that are not needed any more."""
    check_graph(graph)
    check_machine(machine)
    kept = _computed(graph[0])
    program, buffers = lower(graph, kept)
    found = lives(program, tuple([buffers[out] for out in graph[1]]))
    sizes = tuple([size for role, size in program[0] if role == "main"])
    return ((), kept, (), choose_places(found, sizes))


def _computed(nodes):
    return tuple([place for place, node in enumerate(nodes) if node[0] != "input" and node[0] != "const"])

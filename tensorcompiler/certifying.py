"""Certifying: whether code from anywhere computes a graph."""

from tensorcompiler.auditing import audit_code
from tensorcompiler.errors import AuditError, PlaceError
from tensorcompiler.fitting import check_ends
from tensorcompiler.graph_terms import graph_terms
from tensorcompiler.graphs import check_graph, input_places
from tensorcompiler.instructions import check_code
from tensorcompiler.machines import word_bounds
from tensorcompiler.shapes import count_of
from tensorcompiler.terms import Terms


def certify(graph, machine, code, inputs, constants, outputs):
    """Return True if the audit accepts the code and finds the outputs of the graph at their addresses."""
    domains = check_graph(graph)
    check_code(machine, code)
    nodes, outs = graph
    places = input_places(nodes)
    if len(inputs) != len(places) or len(outputs) != len(outs):
        raise PlaceError("there are not as many addresses as inputs or outputs")
    sizes = [count_of(domain[0]) for domain in domains]
    given = _addresses(inputs, [sizes[place] for place in places]) + [address for address, _ in constants]
    _check_addresses(machine, given, _addresses(outputs, [sizes[out] for out in outs]))
    for low, high in [domains[place][1:] for place in places] + [(word, word) for _, word in constants]:
        check_ends(low, high, word_bounds(machine))
    table = Terms()
    terms = graph_terms(table, graph)
    main = _main_before(table, machine, inputs, [terms[place] for place in places], constants)
    try:
        found = audit_code(table, machine, code, main)
    except AuditError:
        return False
    return all([found[address:address + sizes[out]] == terms[out] for address, out in zip(outputs, outs)])


def _main_before(table, machine, inputs, rows, constants):
    """Return what main memory holds before the run: the rows of terms of the inputs, and the constants."""
    main = [None] * machine[1]
    for address, row in zip(inputs, rows):
        main[address:address + len(row)] = row
    for address, word in constants:
        main[address] = table.number(word)
    return tuple(main)


def _addresses(starts, sizes):
    """Return the addresses of all words that stand in rows from the starts on."""
    return [start + at for start, size in zip(starts, sizes) for at in range(size)]


def _check_addresses(machine, given, wanted):
    """Raise PlaceError if an address is outside of main memory, or if two given words have the same one."""
    for address in given + wanted:
        if address < 0 or address >= machine[1]:
            raise PlaceError("an address is outside of main memory")
    if len(set(given)) < len(given):
        raise PlaceError("two words of inputs and constants have the same address")

"""Whether everything that a program computes fits a machine, for all inputs in their intervals."""

from tensorcompiler.agreeing import TermExecution
from tensorcompiler.errors import TooWide
from tensorcompiler.graph_terms import input_terms
from tensorcompiler.machines import word_bounds
from tensorcompiler.terms import Terms
from tensorcompiler.walking import all_statements, parts_of_statement


class FittingExecution(TermExecution):
    """An execution on terms that raises TooWide where a made term may not fit a machine."""

    def __init__(self, table, program, given, bounds):
        TermExecution.__init__(self, table, program, given)
        self._bounds = bounds

    def apply(self, kind, words, info):
        """Return what a pointwise kind makes of words."""
        made = self._table.make(kind, words, info)
        low, high = self._table.span(made)
        check_ends(low, high, self._bounds)
        return made


def check_ends(low, high, bounds):
    """Raise TooWide if an interval reaches beyond the bounds."""
    if low < bounds[0] or high > bounds[1]:
        raise TooWide("an interval reaches beyond what a word of the machine can hold")


def check_fitting(nodes, program, machine):
    """Raise TooWide if something of the program for nodes may not fit the machine."""
    bounds = word_bounds(machine)
    for kind, _, info in nodes:
        if kind == "input":
            check_ends(info[1], info[2], bounds)
        if kind == "const":
            check_ends(min(info[1]), max(info[1]), bounds)
    for statement, _ in all_statements(program[1], ()):
        for part, _ in parts_of_statement(statement):
            if part[0] == "apply" and part[1] == "clamp":
                check_ends(part[3][0], part[3][1], bounds)
    table = Terms()
    FittingExecution(table, program, _given_terms(table, nodes), bounds).finish()


def _given_terms(table, nodes):
    """Return the terms of the input and const nodes, in order."""
    fed = input_terms(table, nodes)
    given = []
    for place, (kind, _, info) in enumerate(nodes):
        if kind == "input":
            given.append(fed[place])
        if kind == "const":
            given.append(tuple([table.number(n) for n in info[1]]))
    return tuple(given)

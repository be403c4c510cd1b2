"""Running loop programs on terms, and asking whether two of them leave the same words."""

from tensorcompiler.executing import Execution
from tensorcompiler.kinds import WIDTH_LIMIT
from tensorcompiler.loops import check_program
from tensorcompiler.terms import Terms


class TermExecution(Execution):
    """An execution in which each word is the id of a term."""

    def __init__(self, table, program, given):
        Execution.__init__(self, program, given)
        self._table = table

    def number(self, n):
        """Return the word that is a number."""
        return self._table.number(n)

    def apply(self, kind, words, info):
        """Return what a pointwise kind makes of words."""
        return self._table.make(kind, words, info)

    def pick(self, expr):
        """Return the value of a pick: all words that it can choose are read, even if only one can be meant."""
        _, buffer, form, stride, count, inner = expr
        index = self._table.make("clamp", (self.evaluate(inner),), (0, count - 1))
        start = self.position(form)
        words = tuple([self.read(buffer, start + stride * turn) for turn in range(count)])
        return self._table.pick(words, index)


def program_terms(table, program, given):
    """Return the tuple of the ids of each buffer at the end; a word that is not set is None."""
    check_program(program)
    return TermExecution(table, program, given).finish()


def agree(first, second):
    """Return True if two programs leave the same terms in main memory for the same given words."""
    table = Terms()
    found = [_left_in_main(table, program) for program in (first, second)]
    return found[0] == found[1]


def _left_in_main(table, program):
    """Return the buffers that are not near, and the terms that are left in those of main memory."""
    check_program(program)
    buffers = program[0]
    sizes = [size for role, size in buffers if role == "in"]
    widest = 1 << WIDTH_LIMIT
    given = []
    for number, size in enumerate(sizes):
        given.append(tuple([table.variable((number, at), -widest, widest) for at in range(size)]))
    words = TermExecution(table, program, tuple(given)).finish()
    left = [row for row, (role, _) in zip(words, buffers) if role == "main"]
    return ([buffer for buffer in buffers if buffer[0] != "near"], left)

"""Running loop programs on numbers."""

from tensorcompiler.errors import TooWide
from tensorcompiler.executing import Execution
from tensorcompiler.kinds import limit, pointwise
from tensorcompiler.loops import check_program
from tensorcompiler.terms import is_too_wide


class WordExecution(Execution):
    """An execution in which each word is an integer."""

    def number(self, n):
        """Return the word that is a number."""
        return n

    def apply(self, kind, words, info):
        """Return what a pointwise kind makes of words."""
        n = pointwise(kind, words, info)
        if is_too_wide(n):
            raise TooWide("a value is beyond the widest one")
        return n

    def pick(self, expr):
        """Return the value of a pick: only the word that it chooses is read."""
        _, buffer, form, stride, count, inner = expr
        index = limit(self.evaluate(inner), 0, count - 1)
        return self.read(buffer, self.position(form) + stride * index)


def run_program(program, given):
    """Return the tuple of the words of each buffer at the end; a word that is not set is None."""
    check_program(program)
    return WordExecution(program, given).finish()

"""The instructions for statements and expressions of loop programs.

Slot 0 always holds 0. The next ones hold the variables of the loops around an instruction, the outermost first;
then there is one for what is needed for a moment only, and all others hold values of expressions. Each transfer is
waited for at once, so that nothing depends on delays.
"""

from tensorcompiler.instructions import OFFSET_LIMIT
from tensorcompiler.kinds import limit

_ZERO = 0
_FIRST_VARIABLE = 1
# There are at most 8 loops around a statement.
_MOMENT = 9
_FIRST_VALUE = 10
_QUEUE = 0


class Coder:
    """The code so far, the roles and addresses of the buffers, and the slots of the variables."""

    def __init__(self, roles, layout, spare):
        self._roles = roles
        self._layout = layout
        self._spare = spare
        self._variables = {}
        self._code = []

    def finish(self, body):
        """Return the code for statements."""
        self._put_body(body)
        return tuple(self._code)

    def _put(self, *words):
        self._code.append(words)

    def _put_body(self, body):
        for statement in body:
            name = statement[0]
            if name == "loop":
                self._put_loop(statement)
            elif name == "when":
                self._put_when(statement)
            elif name == "put":
                self._put_put(statement)
            else:
                self._put_copy(statement)

    def _put_loop(self, statement):
        _, variable, start, step, count, body = statement
        slot = _FIRST_VARIABLE + len(self._variables)
        self._variables[variable] = slot
        # The step of a loop with a single turn is never made, and can be any number.
        self._put("loop", slot, start, step if count > 1 else 0, count)
        self._put_body(body)
        self._put("end")
        del self._variables[variable]

    def _put_when(self, statement):
        _, form, body = statement
        self._put_form(form, _FIRST_VALUE)
        skip = self._open_skip(_FIRST_VALUE)
        self._put_body(body)
        self._close_skip(skip)

    def _put_put(self, statement):
        _, buffer, form, expr = statement
        self._put_value(expr, _FIRST_VALUE)
        row = self._put_terms(form[1], _FIRST_VALUE + 1)
        start = self._layout[buffer] + form[0]
        if self._roles[buffer] == "near":
            self._put("store", row, start, _FIRST_VALUE)
        else:
            self._put("store", _ZERO, self._spare, _FIRST_VALUE)
            self._put_transfer("out", self._reach(row, start), (_ZERO, self._spare), 1)
            self._put("wait", _QUEUE)

    def _put_copy(self, statement):
        _, to, to_form, source, source_form, count = statement
        name = "in" if self._roles[to] == "near" else "out"
        sides = ((source, source_form), (to, to_form))
        (main, main_form), (near, near_form) = sides if name == "in" else (sides[1], sides[0])
        here = self._put_terms(near_form[1], _FIRST_VALUE)
        there = self._put_terms(main_form[1], _FIRST_VALUE + 1)
        place = self._reach(there, self._layout[main] + main_form[0])
        self._put_transfer(name, place, (here, self._layout[near] + near_form[0]), count)
        self._put("wait", _QUEUE)

    def _put_value(self, expr, slot):
        """Put code that leaves the value of an expression in a slot, and touches no value in a slot before it."""
        name = expr[0]
        if name == "load":
            self._put_load(expr, slot)
        elif name == "apply":
            self._put_apply(expr, slot)
        elif name == "number":
            self._put("set", slot, expr[1])
        elif name == "index":
            self._put_form(expr[1], slot)
        elif name == "guard":
            self._put_guard(expr, slot)
        else:
            self._put_pick(expr, slot)

    def _put_load(self, expr, slot):
        _, buffer, form = expr
        row = self._put_terms(form[1], slot)
        start = self._layout[buffer] + form[0]
        if self._roles[buffer] == "near":
            self._put("load", slot, row, start)
        else:
            self._put_transfer("in", self._reach(row, start), (_ZERO, self._spare), 1)
            self._put("wait", _QUEUE)
            self._put("load", slot, _ZERO, self._spare)

    def _put_apply(self, expr, slot):
        _, kind, exprs, info = expr
        sources = tuple(range(slot, slot + len(exprs)))
        for source, inner in zip(sources, exprs):
            self._put_value(inner, source)
        self._put("do", kind, slot, sources, info)

    def _put_guard(self, expr, slot):
        _, form, one, other = expr
        self._put_form(form, slot)
        skip = self._open_skip(slot)
        self._put_value(one, slot)
        self._put("set", _MOMENT, -1)
        over = self._open_skip(_MOMENT)
        self._close_skip(skip)
        self._put_value(other, slot)
        self._close_skip(over)

    def _put_pick(self, expr, slot):
        _, buffer, form, stride, count, inner = expr
        self._put_value(inner, slot)
        self._put("do", "clamp", slot, (slot,), (0, count - 1))
        row = self._put_terms(form[1], slot + 1)
        start = self._layout[buffer] + form[0]
        if self._roles[buffer] == "near":
            self._put("set", _MOMENT, stride)
            self._put("do", "mul", slot, (slot, _MOMENT), ())
            self._put("do", "add", slot, (slot, row), ())
            self._put("load", slot, slot, start)
        else:
            self._put_gathering(row, start, stride, count)
            self._put("load", slot, slot, self._spare)

    def _put_gathering(self, row, start, stride, count):
        """Put code that brings words of main memory, the stride apart, into the spare words."""
        if stride == 1:
            self._put_transfer("in", self._reach(row, start), (_ZERO, self._spare), count)
        else:
            for k in range(count):
                place = self._reach(row, start + stride * k)
                self._put_transfer("in", place, (_ZERO, self._spare + k), 1)
        self._put("wait", _QUEUE)

    def _put_transfer(self, name, there, here, count):
        """Put a transfer between a place in main memory and one in the near memory, each a slot and an offset."""
        self._put(name, _QUEUE, there[0], there[1], here[0], here[1], count)

    def _put_form(self, form, slot):
        """Put code that leaves the value of an affine form in a slot."""
        base, terms = form
        row = self._put_terms(terms, slot)
        if row == _ZERO:
            self._put("set", slot, base)
        else:
            self._put("set", _MOMENT, base)
            self._put("do", "add", slot, (row, _MOMENT), ())

    def _put_terms(self, terms, slot):
        """Return a slot that holds the sum of the terms of an affine form: the given slot where code is needed."""
        row = _ZERO
        for variable, factor in terms:
            piece = self._variables[variable]
            if factor != 1:
                to = slot if row == _ZERO else _MOMENT
                self._put("set", to, factor)
                self._put("do", "mul", to, (to, piece), ())
                piece = to
            if row == _ZERO:
                row = piece
            else:
                self._put("do", "add", slot, (row, piece), ())
                row = slot
        return row

    def _reach(self, row, start):
        """Return a slot and an offset for an address behind that in a slot, which can be too far for an offset."""
        offset = limit(start, -OFFSET_LIMIT, OFFSET_LIMIT)
        if offset == start:
            return (row, offset)
        self._put("set", _MOMENT, start - offset)
        self._put("do", "add", _MOMENT, (_MOMENT, row), ())
        return (_MOMENT, offset)

    def _open_skip(self, slot):
        """Put a skip whose count is not known yet, and return its index."""
        self._put("skip", slot, 0)
        return len(self._code) - 1

    def _close_skip(self, skip):
        """Let a skip reach up to here."""
        slot = self._code[skip][1]
        self._code[skip] = ("skip", slot, len(self._code) - skip - 1)

"""Loop programs: pairs (buffers, body) of a tuple of buffers and a tuple of statements."""

from tensorcompiler.domains import check_fields
from tensorcompiler.errors import FormError, RangeError, TooLarge
from tensorcompiler.kinds import ARG_COUNTS, FIELDS, POINTWISE, WIDTH_LIMIT
from tensorcompiler.walking import all_statements, body_of, forms_of_part, forms_of_statement
from tensorcompiler.walking import loop_variables, parts_of_statement

_ROLES = ("in", "main", "near")
_WORD_LIMIT = 4096
_TURN_LIMIT = 1000
_PICK_LIMIT = 16
_BUFFER_LIMIT = 1000
STATEMENT_LIMIT = 20000
_PART_LIMIT = 10000
_LOOP_DEPTH = 7
_STATEMENT_DEPTH = 10
LEVEL_LIMIT = 10
_STEP_LIMIT = 4000000


def check_program(program):
    """Return None if the program is valid, otherwise raise its error."""
    buffers, body = program
    walked = []
    for statement, around in all_statements(body, ()):
        walked.append((statement, around, parts_of_statement(statement)))
    _check_forms(buffers, walked)
    _check_ranges(buffers, walked)
    _check_sizes(buffers, walked)
    if sum([_steps_of(statement) for statement in body]) > _STEP_LIMIT:
        raise TooLarge("a program has too many steps")


def _check_forms(buffers, walked):
    roles = [role for role, _ in buffers]
    for role in roles:
        if role not in _ROLES:
            raise FormError("a role is unknown")
    for statement, around, parts in walked:
        variables = loop_variables(around)
        _check_statement_form(statement, roles, variables)
        for form in forms_of_statement(statement):
            _check_affine_form(form, variables)
        for part, _ in parts:
            _check_part_form(part, roles)
            for form in forms_of_part(part):
                _check_affine_form(form, variables)


def _check_statement_form(statement, roles, variables):
    name = statement[0]
    if name in ("loop", "when") and len(body_of(statement)) == 0:
        raise FormError("a body is empty")
    if name == "loop" and statement[1] in variables:
        raise FormError("two loops around a statement have the same variable")
    if name in ("put", "copy"):
        _check_buffer(statement[1], roles)
        if roles[statement[1]] == "in":
            raise FormError("a buffer that is given is set")
    if name == "copy":
        _check_buffer(statement[3], roles)
        if (roles[statement[1]] == "near") == (roles[statement[3]] == "near"):
            raise FormError("a copy is not between the two memories")


def _check_buffer(buffer, roles):
    if buffer < 0 or buffer >= len(roles):
        raise FormError("there is no such buffer")


def _check_affine_form(form, variables):
    before = None
    for variable, factor in form[1]:
        if before is not None and variable <= before:
            raise FormError("the variables of an affine form do not ascend")
        if variable not in variables or factor == 0:
            raise FormError("an affine form has an unknown variable or the factor 0")
        before = variable


def _check_part_form(part, roles):
    if part[0] in ("load", "pick"):
        _check_buffer(part[1], roles)
    if part[0] == "apply":
        _, kind, exprs, info = part
        if kind not in POINTWISE:
            raise FormError("the kind of an expression is not pointwise")
        if len(exprs) != ARG_COUNTS[kind] or len(info) != len(FIELDS[kind]):
            raise FormError(f"an expression of the kind {kind} has another number of expressions or fields")


def _check_ranges(buffers, walked):
    for _, size in buffers:
        _check_number(size, 1, _WORD_LIMIT)
    for statement, _, parts in walked:
        _check_statement_range(statement)
        for form in forms_of_statement(statement):
            _check_affine_range(form)
        for part, _ in parts:
            _check_part_range(part)
            for form in forms_of_part(part):
                _check_affine_range(form)


def _check_number(n, low, high):
    if n < low or n > high:
        raise RangeError("a number of a program is out of its range")


def _check_statement_range(statement):
    if statement[0] == "loop":
        _, variable, start, step, count, _ = statement
        if variable < 0:
            raise RangeError("a variable is negative")
        _check_number(count, 1, _TURN_LIMIT)
        _check_number(start, -_TURN_LIMIT, _TURN_LIMIT)
        _check_number(start + step * (count - 1), -_TURN_LIMIT, _TURN_LIMIT)
    if statement[0] == "copy":
        _check_number(statement[5], 1, _WORD_LIMIT)


def _check_affine_range(form):
    _check_number(form[0], -_WORD_LIMIT, _WORD_LIMIT)
    for _, factor in form[1]:
        _check_number(factor, -_WORD_LIMIT, _WORD_LIMIT)


def _check_part_range(part):
    if part[0] == "number":
        _check_number(part[1], -(1 << WIDTH_LIMIT), 1 << WIDTH_LIMIT)
    if part[0] == "pick":
        _check_number(part[3], -_WORD_LIMIT, _WORD_LIMIT)
        _check_number(part[4], 1, _PICK_LIMIT)
    if part[0] == "apply":
        check_fields(part[1], part[3])


def _check_sizes(buffers, walked):
    if len(buffers) > _BUFFER_LIMIT:
        raise TooLarge("a program has too many buffers")
    if len(walked) > STATEMENT_LIMIT:
        raise TooLarge("a program has too many statements")
    if sum([len(parts) for _, _, parts in walked]) > _PART_LIMIT:
        raise TooLarge("a program has too many expressions")
    for statement, around, parts in walked:
        if len(around) > _STATEMENT_DEPTH:
            raise TooLarge("a statement has too many statements around it")
        if statement[0] == "loop" and len(loop_variables(around)) > _LOOP_DEPTH:
            raise TooLarge("a loop has too many loops around it")
        if len(parts) > 0 and max([level for _, level in parts]) > LEVEL_LIMIT:
            raise TooLarge("an expression has too many levels")


def _steps_of(statement):
    """Return how many steps the execution of a statement has, the bodies of all when counted as executed."""
    inner = sum([_steps_of(one) for one in body_of(statement)])
    if statement[0] == "loop":
        return 1 + statement[4] * inner
    if statement[0] == "copy":
        return statement[5]
    parts = parts_of_statement(statement)
    picked = sum([part[4] for part, _ in parts if part[0] == "pick"])
    return 1 + inner + len(parts) + picked
